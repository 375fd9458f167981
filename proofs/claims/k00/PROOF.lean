import PyProof.Rows.All
import Wide.All
import OpenK.AllK
import Wide.FinOn
import KE.KStateDown
import HandS.Head0
import HandS.Head1
import HandS.Head2
import HandS.HeadHook1
import HandS.HeadHook2
import HandS.HeadHook3
import HandS.Words
import PySem.Challenge.RW_worldsalone_k00_errors
import HandS.ForMost
import HandS.ForExc
import HandS.Defaults
import HandS.More
import HandS.ExcInit
import HandS.IsInst
import HandS.Flow
import HandS.Small
import HandS.DictComp
import HandS.Text
import HandS.TupLen
import HandS.Conv
import HandS.Zip
import HandS.Walk
import HandS.Rev
import HandS.Star
import HandS.CallLocal
import HandS.Codes
import KE.GoesEnumKw
import HandS.Set
import HandS.SetFor
import HandS.Strs
import KE.KDictZip
import HandS.Style
import HandS.Ends
import KE.GoesMore
import KE.GoesEnum
import HandS.TupAny
import PyProof.ReprRoads
import HandS.HeadEnd
import HandS.NoneIn
import KE.KDictPairs
import HandS.OwnEq
import HandS.Dict
import KE.KDictList
import KE.KDictCopyH
import KE.KExcInit
import HandS.ExcIs
import HandS.ExcField
import HandS.ExcValue
import PyProof.ExcBaseAll.LookupError
import KE.KxIndex
set_option Elab.async false
set_option linter.all false
set_option maxRecDepth 1000000
set_option maxHeartbeats 0
/-! what the head looks at -/
namespace Pd
open L2 PySem PySem.Spec PyProof.Rows
/-- a value as a whole: what is frozen is a tree, what may change is a number of the store -/
inductive D where
  | non | bl (b : Bool) | int (i : Int) | str (x : Str) | ty (n : String) | glo (g : Nat)
  | tup (ds : List D) | ctp (ds : List D) | lst (ds : List D) | frl (ds : List D) | dct (kvs : List (Key × D)) | dtt (kvs : List (List Key × D)) | kdc (kvs : List (Str × D)) | ins (c : Nat) (fs : List (Nat × D)) | xn (c : Nat) (fs : List (Nat × D)) | ref (n : Nat)
  deriving Inhabited

abbrev eqB := PySem.W.Z.eqB

def eqN : List Nat → List Nat → Bool
  | [], [] => true
  | a :: x, b :: y => (match Nat.beq a b with
    | true => eqN x y
    | false => false)
  | _, _ => false

def eqS (x y : Str) : Bool := eqN x.cps.toList y.cps.toList

def eqBl : Bool → Bool → Bool
  | true, true => true
  | false, false => true
  | _, _ => false

def repL (f : D → Value → Bool) : List D → List Value → Bool
  | [], [] => true
  | d :: ds, u :: us => (match f d u with
    | true => repL f ds us
    | false => false)
  | _, _ => false

def tupO : Option Obj → Option (List Value)
  | some ⟨.type c, none, .seq its _, _⟩ => (match decide (c = "tuple") && Nat.ble its.size 1000000 with
    | true => some its.toList
    | false => none)
  | _ => none

def repB (K : PySem.W.Frag) (g : Nat → Addr) : Nat → D → Value → Bool
  | 0, _, _ => false
  | n + 1, d, u => match d, u with
    | .non, .none => true
    | .bl b, .bool c => eqBl b c
    | .int i, .int j _ => eqB i j
    | .str x, .str y _ => eqS x y
    | .glo k, .ref a => Nat.beq (g k) a
    | .ctp ds, .ref a => (match tupO (K.lookup a) with
      | some us => repL (repB K g n) ds us
      | none => false)
    | _, _ => false

/-- the entries of a table -/
def kdcB (K : PySem.W.Frag) (g : Nat → Addr) (a : Addr) : List (Str × D) → Bool
  | [] => true
  | (x, d) :: r => (match PySem.W.nsIn K a x with
    | some (some u) => (match repB K g 20 d u with
      | true => kdcB K g a r
      | false => false)
    | _ => false)

abbrev AlA : Type := He.AlT × Bool

def obsA (fa : List He.Fa) (fn : List He.DefD) (ts : List He.Tab) (bs : PySem.W.Frag → Bool) (K : PySem.W.Frag) : AlA := (He.obsT fa fn ts K, bs K)

def valA (fn : List He.DefD) (ts : List He.Tab) (w : World) : AlA := (He.valT fn ts w, true)

def obsAG (as : List Addr) (fa : List He.Fa) (fn : List He.DefD) (ts : List He.Tab) (bs : PySem.W.Frag → Bool) (g : Addr → Option Obj) : AlA := obsA fa fn ts bs (He.frG g as)

def SaysA (fa : List He.Fa) (fn : List He.DefD) (ts : List He.Tab) (bs : PySem.W.Frag → Bool) (w : World) (K : PySem.W.Frag) : Prop := obsA fa fn ts bs K = valA fn ts w

def hookA (as : List Addr) (fa : List He.Fa) (fn : List He.DefD) (ts : List He.Tab) (bs : PySem.W.Frag → Bool) : PySem.W.Hook where
  α := AlA
  obs := fun s => obsAG as fa fn ts bs s.heap.get?
  val := fun w => valA fn ts w
  says := fun w h => ∃ K : PySem.W.Frag, K.In h ∧ SaysA fa fn ts bs w K
  of := fun _ _ e => ⟨_, He.frG_in, e⟩
  keeps := fun _ _ _ ⟨K, hK, c⟩ k => (⟨K, PySem.W.Frag.In.keeps hK k, c⟩)
/-- .. in three parts, each looked at by a run of its own -/
abbrev AlS : Type := (AlA × He.AlD) × He.AlD
def obsSG (as : List Addr) (fa : List He.Fa) (fn : List He.DefD) (n : Nat) (ts : List He.Tab) (bs : PySem.W.Frag → Bool) (g : Addr → Option Obj) : AlS := ((obsAG as fa [] ts bs g, He.obsD [] (fn.take n) (He.frG g as)), He.obsD [] (fn.drop n) (He.frG g as))
def hookS (as : List Addr) (fa : List He.Fa) (fn : List He.DefD) (n : Nat) (ts : List He.Tab) (bs : PySem.W.Frag → Bool) : PySem.W.Hook where
  α := AlS
  obs := fun s => obsSG as fa fn n ts bs s.heap.get?
  val := fun w => ((valA [] ts w, He.valD (fn.take n)), He.valD (fn.drop n))
  says := fun w h => ∃ K : PySem.W.Frag, K.In h ∧ (SaysA fa [] ts bs w K ∧ He.SaysD [] (fn.take n) K) ∧ He.SaysD [] (fn.drop n) K
  of := fun w s e => by
    have e1 : ((obsAG as fa [] ts bs s.heap.get?, He.obsD [] (fn.take n) (He.frG s.heap.get? as)), He.obsD [] (fn.drop n) (He.frG s.heap.get? as)) = (((valA [] ts w, He.valD (fn.take n)), He.valD (fn.drop n)) : AlS) := e
    obtain ⟨e2, e3⟩ := Prod.mk.inj e1
    obtain ⟨e4, e5⟩ := Prod.mk.inj e2
    exact ⟨_, He.frG_in, ⟨e4, e5⟩, e3⟩
  keeps := fun _ _ _ ⟨K, hK, c⟩ k => (⟨K, PySem.W.Frag.In.keeps hK k, c⟩)
theorem obsSG_eq {as : List Addr} {fa : List He.Fa} {fn : List He.DefD} {n : Nat} {ts : List He.Tab} {bs : PySem.W.Frag → Bool} {g : Addr → Option Obj} {s : Shared} (h : ∀ a, g a = s.heap.get? a) : obsSG as fa fn n ts bs g = (hookS as fa fn n ts bs).obs s := by
  rw [show g = s.heap.get? from funext h] <;> rfl
theorem says_all {fa : List He.Fa} {fn : List He.DefD} {n : Nat} {ts : List He.Tab} {bs : PySem.W.Frag → Bool} {w : World} {K : PySem.W.Frag} (a : SaysA fa [] ts bs w K) (b : He.SaysD [] (fn.take n) K) (c : He.SaysD [] (fn.drop n) K) : SaysA fa fn ts bs w K := by
  have a1 : He.obsT fa [] ts K = He.valT [] ts w := congrArg (fun z : AlA => z.1) a
  have a2 : bs K = true := congrArg (fun z : AlA => z.2) a
  have a3 : He.obsD fa [] K = He.valD [] := congrArg (fun z : He.AlT => z.1) a1
  have a4 : (ts.map fun t => He.dicW K (t.1 K)) = ts.map fun t => some (He.keysIn w.params t.2) := congrArg (fun z : He.AlT => z.2) a1
  have f1 := (He.ba (show ((fa.all fun f => f.ok K) && ([] : List He.DefD).all fun d => d.ok K) = true from congrArg (fun z : He.AlD => z.1) a3)).1
  have f2 := (He.ba (show (([] : List He.Fa).all (fun f => f.ok K) && (fn.take n).all fun d => d.ok K) = true from congrArg (fun z : He.AlD => z.1) b)).2
  have f3 := (He.ba (show (([] : List He.Fa).all (fun f => f.ok K) && (fn.drop n).all fun d => d.ok K) = true from congrArg (fun z : He.AlD => z.1) c)).2
  have g2 : (fn.take n).map (fun d => He.fnW K d.at_) = (fn.take n).map He.DefD.val := congrArg (fun z : He.AlD => z.2) b
  have g3 : (fn.drop n).map (fun d => He.fnW K d.at_) = (fn.drop n).map He.DefD.val := congrArg (fun z : He.AlD => z.2) c
  have h1 : (fn.all fun d => d.ok K) = true := by
    rw [← List.take_append_drop n fn, List.all_append, f2, f3]; rfl
  have h2 : fn.map (fun d => He.fnW K d.at_) = fn.map He.DefD.val := by
    rw [← List.take_append_drop n fn, List.map_append, List.map_append, g2, g3]
  show ((((fa.all fun f => f.ok K) && fn.all fun d => d.ok K, fn.map fun d => He.fnW K d.at_), ts.map fun t => He.dicW K (t.1 K)), bs K) = (((true, fn.map He.DefD.val), ts.map fun t => some (He.keysIn w.params t.2)), true)
  rw [f1, h1, h2, a4, a2]; rfl
/-- a run looked at in parts -/
theorem map_parts {α β γ δ ε : Type} {o : Option α} {f : α → β} {g : α → γ} {p : α → δ} {q : α → ε} {h : α → Bool} {b : Bool} {v : β} {x : γ} {y : δ} {z : ε} (h1 : o.map (fun s => (h s, f s, g s)) = some (b, v, x)) (h2 : o.map p = some y) (h3 : o.map q = some z) : o.map (fun s => (h s, f s, ((g s, p s), q s))) = some (b, v, ((x, y), z)) := by
  cases o with
  | none => cases h1
  | some s =>
    have e1 : (h s, f s, g s) = (b, v, x) := Option.some.inj h1
    have e2 : p s = y := Option.some.inj h2
    have e3 : q s = z := Option.some.inj h3
    obtain ⟨i1, i2⟩ := Prod.mk.inj e1
    obtain ⟨i3, i4⟩ := Prod.mk.inj i2
    show some (h s, f s, ((g s, p s), q s)) = _
    rw [i1, i3, i4, e2, e3]
end Pd

/-! what the head looks at of own classes -/
namespace Pd
open L2 PySem PySem.Spec PyProof.Rows
def obt0 (a : Option Bool) (b : Bool) : Bool := match a with
  | some c => eqBl c b
  | none => false
def tk0 (K : PySem.W.Frag) (c : Addr) : List String → Bool
  | [] => true
  | x :: r => (match obt0 (PySem.W.kitCls K (.type x) (.ref c)) false with
    | true => tk0 K c r
    | false => false)
def ownB0 (K : PySem.W.Frag) (c : Addr) : Bool := PySem.W.plainGet K c Str.empty && (PySem.W.hasDictIn K c && (PySem.W.plainOver K c && (He.eqO (PySem.W.findIn K (.ref c) "__setattr__") (some (some (.builtin "object.__setattr__"))) &&
  (He.eqO (PySem.W.findIn K (.ref c) "__class__") (some (some (.builtin "object.__class__"))) && (He.eqO (PySem.W.specialIn K (.builtin "object.__class__") "__get__") (some (some (.builtin "getset_descriptor.__get__"))) && (obt0 (PySem.W.takesIn K (.builtin "object.__class__")) true && (obt0 (PySem.W.mroIn K c (.type "object")) true &&
  tk0 K c ["NoneType", "bool", "int", "str", "tuple", "list", "dict"])))))))
def neB0 (K : PySem.W.Frag) (c : Addr) : Bool := He.eqO (PySem.W.findIn K (.ref c) "__ne__") (some (some (.builtin "object.__ne__")))
def othB0 (K : PySem.W.Frag) (a b : Addr) : Bool := obt0 (PySem.W.kitOne K (.ref a) (.ref b)) false
end Pd

namespace Lw
open L2 PySem PySem.Spec PyProof.Rows Pd
def top (i : Nat) : Stmt := PySem.Challenge.pw_worldsalone_k00_errors.main.body.getD i (.Pass ⟨0, 0, 0, 0⟩)
abbrev s12 : Stmt := top 19
def dd12 : He.DefD := ⟨("_law_source", none), "_law_source", "_law_source", defArgs s12, defBody s12, defScope s12, [], []⟩
abbrev s13 : Stmt := top 20
def dd13 : He.DefD := ⟨("_law_pick", none), "_law_pick", "_law_pick", defArgs s13, defBody s13, defScope s13, [], []⟩
abbrev s1 : Stmt := inClass (top 6) 0
def dd1 : He.DefD := ⟨("TwiceTold", some "__init__"), "__init__", "TwiceTold.__init__", defArgs s1, defBody s1, defScope s1, [], []⟩
abbrev s0 : Stmt := inClass (top 5) 0
def dd0 : He.DefD := ⟨("BadName", some "__init__"), "__init__", "BadName.__init__", defArgs s0, defBody s0, defScope s0, [], []⟩
abbrev s6 : Stmt := inClass (top 11) 0
def dd6 : He.DefD := ⟨("BadData", some "__init__"), "__init__", "BadData.__init__", defArgs s6, defBody s6, defScope s6, [], []⟩
abbrev s5 : Stmt := inClass (top 10) 0
def dd5 : He.DefD := ⟨("BadBook", some "__init__"), "__init__", "BadBook.__init__", defArgs s5, defBody s5, defScope s5, [], []⟩
abbrev s4 : Stmt := inClass (top 9) 0
def dd4 : He.DefD := ⟨("BadStart", some "__init__"), "__init__", "BadStart.__init__", defArgs s4, defBody s4, defScope s4, [], []⟩
abbrev s3 : Stmt := inClass (top 8) 0
def dd3 : He.DefD := ⟨("BadMachine", some "__init__"), "__init__", "BadMachine.__init__", defArgs s3, defBody s3, defScope s3, [], []⟩
abbrev s2 : Stmt := inClass (top 7) 0
def dd2 : He.DefD := ⟨("BadMeaning", some "__init__"), "__init__", "BadMeaning.__init__", defArgs s2, defBody s2, defScope s2, [], []⟩
abbrev s8 : Stmt := inClass (top 13) 0
def dd8 : He.DefD := ⟨("TooLong", some "__init__"), "__init__", "TooLong.__init__", defArgs s8, defBody s8, defScope s8, [], []⟩
abbrev s7 : Stmt := inClass (top 12) 0
def dd7 : He.DefD := ⟨("BadText", some "__init__"), "__init__", "BadText.__init__", defArgs s7, defBody s7, defScope s7, [], []⟩
abbrev s11 : Stmt := inClass (top 17) 0
def dd11 : He.DefD := ⟨("NotThere", some "__init__"), "__init__", "NotThere.__init__", defArgs s11, defBody s11, defScope s11, [], []⟩
abbrev s10 : Stmt := inClass (top 16) 0
def dd10 : He.DefD := ⟨("UnknownWorld", some "__init__"), "__init__", "UnknownWorld.__init__", defArgs s10, defBody s10, defScope s10, [], []⟩
abbrev s9 : Stmt := inClass (top 15) 0
def dd9 : He.DefD := ⟨("UnknownName", some "__init__"), "__init__", "UnknownName.__init__", defArgs s9, defBody s9, defScope s9, [], []⟩
abbrev s16 : Stmt := top 23
def dd16 : He.DefD := ⟨("_law_every", none), "_law_every", "_law_every", defArgs s16, defBody s16, defScope s16, [], []⟩
abbrev s14 : Stmt := top 21
def dd14 : He.DefD := ⟨("_law_kinds", none), "_law_kinds", "_law_kinds", defArgs s14, defBody s14, defScope s14, [], []⟩
abbrev s15 : Stmt := top 22
def dd15 : He.DefD := ⟨("_law_bases", none), "_law_bases", "_law_bases", defArgs s15, defBody s15, defScope s15, [], []⟩
abbrev s17 : Stmt := top 24
def dd17 : He.DefD := ⟨("_law_kept", none), "_law_kept", "_law_kept", defArgs s17, defBody s17, defScope s17, [], []⟩
abbrev s18 : Stmt := top 25
def dd18 : He.DefD := ⟨("law", none), "law", "law", defArgs s18, defBody s18, defScope s18, [], []⟩
def fn : List He.DefD := [dd12, dd13, dd1, dd0, dd6, dd5, dd4, dd3, dd2, dd8, dd7, dd11, dd10, dd9, dd16, dd14, dd15, dd17, dd18]
def fa : List He.Fa := [.free "int", .free "abs", .free "len", .free "range", .glo "_law_source", .glo "_law_pick", .glo "TwiceTold", .glo "BadName", .glo "NoRoom", .glo "BadPaper", .glo "BadChoice", .free "tuple", .glo "BadData", .glo "BadBook", .glo "BadStart", .glo "BadMachine", .glo "BadMeaning", .glo "TooLong", .glo "BadText", .glo "NotThere", .glo "UnknownWorld", .glo "UnknownName", .glo "_law_every", .free "isinstance", .glo "_law_kinds", .free "ValueError", .glo "HostError", .free "LookupError", .glo "NameMissing", .glo "_law_bases", .free "repr", .glo "_law_kept", .glo "law"]
def GN : List Str := (["_law_source", "_law_pick", "_law_kinds", "_law_bases", "_law_every", "_law_kept", "law", "HostError", "BadChoice", "BadPaper", "NoRoom", "BadName", "TwiceTold", "BadMeaning", "BadMachine", "BadStart", "BadBook", "BadData", "BadText", "TooLong", "NameMissing", "UnknownName", "UnknownWorld", "NotThere"] : List Str)
def xt_BadName : List (Nat × Bool) := [(12, false), (11, true), (10, false), (9, false), (8, false), (17, false), (16, false), (15, false), (14, false), (13, false), (19, false), (18, false), (23, false), (22, false), (21, false)]
def xt_NoRoom : List (Nat × Bool) := [(12, false), (11, false), (10, true), (9, false), (8, false), (17, false), (16, false), (15, false), (14, false), (13, false), (19, false), (18, false), (23, false), (22, false), (21, false)]
def xt_BadPaper : List (Nat × Bool) := [(12, false), (11, false), (10, false), (9, true), (8, false), (17, false), (16, false), (15, false), (14, false), (13, false), (19, false), (18, false), (23, false), (22, false), (21, false)]
def xt_BadChoice : List (Nat × Bool) := [(12, false), (11, false), (10, false), (9, false), (8, true), (17, false), (16, false), (15, false), (14, false), (13, false), (19, false), (18, false), (23, false), (22, false), (21, false)]
def xt_BadMachine : List (Nat × Bool) := [(12, false), (11, false), (10, false), (9, false), (8, false), (17, false), (16, false), (15, false), (14, true), (13, false), (19, false), (18, false), (23, false), (22, false), (21, false)]
def xt_BadMeaning : List (Nat × Bool) := [(12, false), (11, false), (10, false), (9, false), (8, false), (17, false), (16, false), (15, false), (14, false), (13, true), (19, false), (18, false), (23, false), (22, false), (21, false)]
def xt_TwiceTold : List (Nat × Bool) := [(12, true), (11, false), (10, false), (9, false), (8, false), (17, false), (16, false), (15, false), (14, false), (13, false), (19, false), (18, false), (23, false), (22, false), (21, false)]
def xt_BadData : List (Nat × Bool) := [(12, false), (11, false), (10, false), (9, false), (8, false), (17, true), (16, false), (15, false), (14, false), (13, false), (19, false), (18, false), (23, false), (22, false), (21, false)]
def xt_BadBook : List (Nat × Bool) := [(12, false), (11, false), (10, false), (9, false), (8, false), (17, false), (16, true), (15, false), (14, false), (13, false), (19, false), (18, false), (23, false), (22, false), (21, false)]
def xt_BadStart : List (Nat × Bool) := [(12, false), (11, false), (10, false), (9, false), (8, false), (17, false), (16, false), (15, true), (14, false), (13, false), (19, false), (18, false), (23, false), (22, false), (21, false)]
def xt_TooLong : List (Nat × Bool) := [(12, false), (11, false), (10, false), (9, false), (8, false), (17, false), (16, false), (15, false), (14, false), (13, false), (19, true), (18, false), (23, false), (22, false), (21, false)]
def xt_BadText : List (Nat × Bool) := [(12, false), (11, false), (10, false), (9, false), (8, false), (17, false), (16, false), (15, false), (14, false), (13, false), (19, false), (18, true), (23, false), (22, false), (21, false)]
def xt_NotThere : List (Nat × Bool) := [(12, false), (11, false), (10, false), (9, false), (8, false), (17, false), (16, false), (15, false), (14, false), (13, false), (19, false), (18, false), (23, true), (22, false), (21, false)]
def xt_UnknownWorld : List (Nat × Bool) := [(12, false), (11, false), (10, false), (9, false), (8, false), (17, false), (16, false), (15, false), (14, false), (13, false), (19, false), (18, false), (23, false), (22, true), (21, false)]
def xt_UnknownName : List (Nat × Bool) := [(12, false), (11, false), (10, false), (9, false), (8, false), (17, false), (16, false), (15, false), (14, false), (13, false), (19, false), (18, false), (23, false), (22, false), (21, true)]
def xt_ValueError : List (Nat × Bool) := [(12, true), (11, true), (10, true), (9, true), (8, true), (17, true), (16, true), (15, true), (14, true), (13, true), (19, true), (18, true), (23, false), (22, false), (21, false)]
def xt_HostError : List (Nat × Bool) := [(12, true), (11, true), (10, true), (9, true), (8, true), (17, true), (16, true), (15, true), (14, true), (13, true), (19, true), (18, true), (23, false), (22, false), (21, false)]
def xt_LookupError : List (Nat × Bool) := [(12, false), (11, false), (10, false), (9, false), (8, false), (17, false), (16, false), (15, false), (14, false), (13, false), (19, false), (18, false), (23, true), (22, true), (21, true)]
def xt_NameMissing : List (Nat × Bool) := [(12, false), (11, false), (10, false), (9, false), (8, false), (17, false), (16, false), (15, false), (14, false), (13, false), (19, false), (18, false), (23, true), (22, true), (21, true)]
end Lw

namespace Pd
open PySem PySem.Spec L2

/-! ### data -/
/-- an object of the store -/
inductive MO where
  | lst (ds : List D) | dct (kvs : List (Key × D)) | dtt (kvs : List (List Key × D)) | ins (c : Nat) (fs : List (Nat × D)) | lck (m : MO)
def MO.opn : MO → Bool
  | .lck _ => false
  | _ => true
structure Sto where
  nx : Nat
  ob : List (Nat × MO)
def look : List (Nat × MO) → Nat → Option MO
  | [], _ => none
  | (k, m) :: r, n => match Nat.beq k n with
    | true => some m
    | false => look r n
def put : List (Nat × MO) → Nat → MO → List (Nat × MO)
  | [], _, _ => []
  | (k, m) :: r, n, m' => match Nat.beq k n with
    | true => (k, m') :: r
    | false => (k, m) :: put r n m'
def cut : List (Nat × MO) → Nat → List (Nat × MO)
  | [], _ => []
  | (k, m) :: r, n => match Nat.beq k n with
    | true => cut r n
    | false => (k, m) :: cut r n
def Sto.at (S : Sto) (n : Nat) : Option MO := look S.ob n
def Sto.set (S : Sto) (n : Nat) (m : MO) : Sto := ⟨S.nx, put S.ob n m⟩
def Sto.del (S : Sto) (n : Nat) : Sto := ⟨S.nx, cut S.ob n⟩
def Sto.new (S : Sto) (m : MO) : Sto := ⟨S.nx + 1, (S.nx, m) :: S.ob⟩

theorem look_put_same : ∀ {l : List (Nat × MO)} {n : Nat} {m m' : MO}, look l n = some m → look (put l n m') n = some m'
  | (k, q) :: r, n, m, m', h => by
    unfold look at h
    unfold put
    cases e : Nat.beq k n with
    | true => rw [e] at h; show look ((k, m') :: r) n = _; unfold look; rw [e]
    | false => rw [e] at h; show look ((k, q) :: put r n m') n = _; unfold look; rw [e]; exact look_put_same h
theorem look_put_ne : ∀ {l : List (Nat × MO)} {n j : Nat} {m' : MO}, j ≠ n → look (put l n m') j = look l j
  | [], _, _, _, _ => rfl
  | (k, q) :: r, n, j, m', h => by
    unfold put
    cases e : Nat.beq k n with
    | true =>
      have : k = n := Nat.eq_of_beq_eq_true e
      subst this
      show look ((k, m') :: r) j = look ((k, q) :: r) j
      unfold look
      cases e2 : Nat.beq k j with
      | true => exact absurd (Nat.eq_of_beq_eq_true e2).symm h
      | false => rfl
    | false =>
      show look ((k, q) :: put r n m') j = look ((k, q) :: r) j
      unfold look
      cases e2 : Nat.beq k j with
      | true => rfl
      | false => exact look_put_ne h
theorem look_cut_same : ∀ {l : List (Nat × MO)} {n : Nat}, look (cut l n) n = none
  | [], _ => rfl
  | (k, q) :: r, n => by
    unfold cut
    cases e : Nat.beq k n with
    | true => exact look_cut_same
    | false => show look ((k, q) :: cut r n) n = none; unfold look; rw [e]; exact look_cut_same
theorem look_cut_ne : ∀ {l : List (Nat × MO)} {n j : Nat}, j ≠ n → look (cut l n) j = look l j
  | [], _, _, _ => rfl
  | (k, q) :: r, n, j, h => by
    unfold cut
    cases e : Nat.beq k n with
    | true =>
      have : k = n := Nat.eq_of_beq_eq_true e
      subst this
      show look (cut r k) j = look ((k, q) :: r) j
      rw [look_cut_ne h]
      conv => rhs; unfold look
      cases e2 : Nat.beq k j with
      | true => exact absurd (Nat.eq_of_beq_eq_true e2).symm h
      | false => rfl
    | false =>
      show look ((k, q) :: cut r n) j = look ((k, q) :: r) j
      unfold look
      cases e2 : Nat.beq k j with
      | true => rfl
      | false => exact look_cut_ne h
theorem look_new {S : Sto} {m : MO} : (S.new m).at S.nx = some m := by
  show look ((S.nx, m) :: S.ob) S.nx = _
  unfold look
  rw [Nat.beq_refl]
theorem look_new_ne {S : Sto} {m : MO} {j : Nat} (h : j ≠ S.nx) : (S.new m).at j = S.at j := by
  show look ((S.nx, m) :: S.ob) j = look S.ob j
  conv => lhs; unfold look
  cases e : Nat.beq S.nx j with
  | true => exact absurd (Nat.eq_of_beq_eq_true e).symm h
  | false => rfl

/-! ### how data stands in the heap -/
/-- the program's own things by numbers: addresses of defs and classes, attribute names -/
structure Cfg where
  K : PySem.W.Frag
  w : World
  ga : Nat → Addr
  an : List Str
/-- what is known of the heap: what is frozen, where the store's objects lie -/
structure Wd where
  fz : Hp
  mu : Nat → Option Addr
  lk : Addr → Option (Obj × HO)
  kp : Addr → Option HO
def Wd.le (M M' : Wd) : Prop := (∀ a o, M.fz a = some o → M'.fz a = some o) ∧ (∀ n a, M.mu n = some a → M'.mu n = some a) ∧ (∀ a p, M.lk a = some p → M'.lk a = some p) ∧ ∀ a o, M.kp a = some o → M'.kp a = some o
theorem Wd.le.refl (M : Wd) : M.le M := ⟨fun _ _ h => h, fun _ _ h => h, fun _ _ h => h, fun _ _ h => h⟩
theorem Wd.le.trans {M M' M'' : Wd} (a : M.le M') (b : M'.le M'') : M.le M'' := ⟨fun x o h => b.1 x o (a.1 x o h), fun n x h => b.2.1 n x (a.2.1 n x h), fun n x h => b.2.2.1 n x (a.2.2.1 n x h), fun n x h => b.2.2.2 n x (a.2.2.2 n x h)⟩
/-- what readings ask of the worlds: the locks aside -/
def Wd.lev (M M' : Wd) : Prop := (∀ a o, M.fz a = some o → M'.fz a = some o) ∧ ∀ n a, M.mu n = some a → M'.mu n = some a
theorem Wd.le.v {M M' : Wd} (l : M.le M') : M.lev M' := ⟨l.1, l.2.1⟩

/-- a dict that is to be read -/
def DcK (K : PySem.W.Frag) (H : Hp) (a : Addr) (kvs : List (Key × V)) : Prop := Rd H a (.dK kvs)

/-- a tuple whose object is known to have no dict: one of the module, one that was made so -/
def SqP (K : PySem.W.Frag) (H : Hp) (a : Addr) (vs : List V) : Prop := (∃ ob, H a = some (.frz ob (.tup vs)) ∧ ob.dict = none) ∨ ∃ o its n, K.lookup a = some o ∧ o.cls = .type "tuple" ∧ o.dict = none ∧ o.data = .seq its n ∧ its.size ≤ sizeLine ∧ Vals vs its.toList
theorem SqP.sq {K : PySem.W.Frag} {H : Hp} {a : Addr} {vs : List V} (h : SqP K H a vs) : SqT K H a vs := by
  rcases h with ⟨ob, h, _⟩ | ⟨o, its, n, h1, h2, _, h3, h4, h5⟩
  · exact .inl (.inr ⟨ob, h⟩)
  · exact .inr ⟨o, its, n, h1, h2, h3, h4, h5⟩
theorem sqP_mono {K : PySem.W.Frag} {H H' : Hp} (h : ∀ a o, H a = some o → H' a = some o) {a : Addr} {vs : List V} (r : SqP K H a vs) : SqP K H' a vs := r.imp (fun ⟨ob, q, d⟩ => ⟨ob, h _ _ q, d⟩) id
inductive Rep (C : Cfg) (M : Wd) : D → V → Prop
  | non : Rep C M .non .non
  | bl (b : Bool) : Rep C M (.bl b) (.bl b)
  | int (i : Int) : Rep C M (.int i) (.int i)
  | str (x : Str) : Rep C M (.str x) (.str x)
  | ty (n : String) : Rep C M (.ty n) (.ty n)
  | glo (g : Nat) : Rep C M (.glo g) (.ref (C.ga g))
  | ref {n : Nat} {a : Addr} (h : M.mu n = some a) : Rep C M (.ref n) (.ref a)
  | tup {ds : List D} {a : Addr} {vs : List V} (h : M.fz a = some (.tup vs)) (hl : ds.length = vs.length) (hr : ∀ (i : Nat) d v, ds[i]? = some d → vs[i]? = some v → Rep C M d v) : Rep C M (.tup ds) (.ref a)
  | ctp {ds : List D} {a : Addr} {vs : List V} (h : SqP C.K M.fz a vs) (hl : ds.length = vs.length) (hr : ∀ (i : Nat) d v, ds[i]? = some d → vs[i]? = some v → Rep C M d v) : Rep C M (.ctp ds) (.ref a)
  | lst {ds : List D} {a : Addr} {vs : List V} (h : M.fz a = some (.lst vs)) (hl : ds.length = vs.length) (hr : ∀ (i : Nat) d v, ds[i]? = some d → vs[i]? = some v → Rep C M d v) : Rep C M (.lst ds) (.ref a)
  | frl {ds : List D} {a : Addr} {vs : List V} (h : SqL C.K M.fz a vs) (hl : ds.length = vs.length) (hr : ∀ (i : Nat) d v, ds[i]? = some d → vs[i]? = some v → Rep C M d v) : Rep C M (.frl ds) (.ref a)
  | dct {kds : List (Key × D)} {a : Addr} {kvs : List (Key × V)} (h : DcK C.K M.fz a kvs) (hl : kds.map (·.1) = kvs.map (·.1)) (hr : ∀ (i : Nat) k d k' v, kds[i]? = some (k, d) → kvs[i]? = some (k', v) → Rep C M d v) : Rep C M (.dct kds) (.ref a)
  | dtt {kds : List (List Key × D)} {a : Addr} {kvs : List (List Key × V)} (h : Rd M.fz a (.dT kvs)) (hl : kds.map (·.1) = kvs.map (·.1)) (hr : ∀ (i : Nat) k d k' v, kds[i]? = some (k, d) → kvs[i]? = some (k', v) → Rep C M d v) : Rep C M (.dtt kds) (.ref a)
  | kdc {kds : List (Str × D)} {a : Addr} {vs : List V} (h : ∃ es n, KDict C.K C.w a es n) (hl : kds.length = vs.length) (hk : ∀ (i : Nat) x d v, kds[i]? = some (x, d) → vs[i]? = some v → ∃ u, PySem.W.nsIn C.K a x = some (some u) ∧ RelV v u) (hn : ∀ z, (∀ p ∈ kds, p.1 ≠ z) → PySem.W.nsIn C.K a z = some none) (hr : ∀ (i : Nat) x d v, kds[i]? = some (x, d) → vs[i]? = some v → Rep C M d v) : Rep C M (.kdc kds) (.ref a)
  | ins {c : Nat} {fs : List (Nat × D)} {a dx : Addr} {fv : List (Str × V)} (h : M.fz a = some (.ins (C.ga c) dx fv)) (hl : fs.map (fun p => C.an[p.1]?) = fv.map (fun p => some p.1)) (hr : ∀ (i : Nat) k d k' v, fs[i]? = some (k, d) → fv[i]? = some (k', v) → Rep C M d v) : Rep C M (.ins c fs) (.ref a)
  | xn {c : Nat} {fs : List (Nat × D)} {a dx : Addr} {fv : List (Str × V)} (h : M.fz a = some (exo a (C.ga c) (some dx))) (h2 : M.fz dx = some (exd dx fv)) (hl : fs.map (fun p => C.an[p.1]?) = fv.map (fun p => some p.1)) (hr : ∀ (i : Nat) k d k' v, fs[i]? = some (k, d) → fv[i]? = some (k', v) → Rep C M d v) : Rep C M (.xn c fs) (.ref a)
  | xn0 {c : Nat} {a : Addr} (h : M.fz a = some (exo a (C.ga c) none)) : Rep C M (.xn c []) (.ref a)

/-- lists of values, of entries, of attributes -/
def RepL (C : Cfg) (M : Wd) (ds : List D) (vs : List V) : Prop := ds.length = vs.length ∧ ∀ (i : Nat) d v, ds[i]? = some d → vs[i]? = some v → Rep C M d v
def RepK (C : Cfg) (M : Wd) (kds : List (Key × D)) (kvs : List (Key × V)) : Prop := kds.map (·.1) = kvs.map (·.1) ∧ ∀ (i : Nat) k d k' v, kds[i]? = some (k, d) → kvs[i]? = some (k', v) → Rep C M d v
def RepT (C : Cfg) (M : Wd) (kds : List (List Key × D)) (kvs : List (List Key × V)) : Prop := kds.map (·.1) = kvs.map (·.1) ∧ ∀ (i : Nat) k d k' v, kds[i]? = some (k, d) → kvs[i]? = some (k', v) → Rep C M d v
def RepF (C : Cfg) (M : Wd) (fs : List (Nat × D)) (fv : List (Str × V)) : Prop := fs.map (fun p => C.an[p.1]?) = fv.map (fun p => some p.1) ∧ ∀ (i : Nat) k d k' v, fs[i]? = some (k, d) → fv[i]? = some (k', v) → Rep C M d v

theorem rd_mono {H H' : Hp} (h : ∀ a o, H a = some o → H' a = some o) {a : Addr} {o : HO} (r : Rd H a o) : Rd H' a o := by
  rcases r with r | ⟨ob, r⟩
  · exact .inl (h _ _ r)
  · exact .inr ⟨ob, h _ _ r⟩
theorem sqL_mono {K : PySem.W.Frag} {H H' : Hp} (h : ∀ a o, H a = some o → H' a = some o) {a : Addr} {vs : List V} (r : SqL K H a vs) : SqL K H' a vs := r.imp (rd_mono h) id
theorem sqT_mono {K : PySem.W.Frag} {H H' : Hp} (h : ∀ a o, H a = some o → H' a = some o) {a : Addr} {vs : List V} (r : SqT K H a vs) : SqT K H' a vs := r.imp (rd_mono h) id
theorem Rep.monoV {C : Cfg} {M M' : Wd} (l : M.lev M') {d : D} {v : V} (r : Rep C M d v) : Rep C M' d v := by
  induction r with
  | non => exact .non
  | bl b => exact .bl b
  | int i => exact .int i
  | str x => exact .str x
  | ty n => exact .ty n
  | glo g => exact .glo g
  | ref h => exact .ref (l.2 _ _ h)
  | tup h hl _ ih => exact .tup (l.1 _ _ h) hl ih
  | ctp h hl _ ih => exact .ctp (sqP_mono l.1 h) hl ih
  | dtt h hl _ ih => exact .dtt (rd_mono l.1 h) hl ih
  | kdc h hl hk hn _ ih => exact .kdc h hl hk hn ih
  | lst h hl _ ih => exact .lst (l.1 _ _ h) hl ih
  | frl h hl _ ih => exact .frl (sqL_mono l.1 h) hl ih
  | dct h hl _ ih => exact .dct (rd_mono l.1 h) hl ih
  | ins h hl _ ih => exact .ins (l.1 _ _ h) hl ih
  | xn h h2 hl _ ih => exact .xn (l.1 _ _ h) (l.1 _ _ h2) hl ih
  | xn0 h => exact .xn0 (l.1 _ _ h)
theorem Rep.mono {C : Cfg} {M M' : Wd} (l : M.le M') {d : D} {v : V} (r : Rep C M d v) : Rep C M' d v := r.monoV l.v
section
variable {C : Cfg} {M M' : Wd}
theorem RepL.monoV (l : M.lev M') {ds : List D} {vs : List V} (r : RepL C M ds vs) : RepL C M' ds vs := ⟨r.1, fun i d v a b => (r.2 i d v a b).monoV l⟩
theorem RepK.monoV (l : M.lev M') {ds : List (Key × D)} {vs : List (Key × V)} (r : RepK C M ds vs) : RepK C M' ds vs := ⟨r.1, fun i k d k' v a b => (r.2 i k d k' v a b).monoV l⟩
theorem RepT.monoV (l : M.lev M') {ds : List (List Key × D)} {vs : List (List Key × V)} (r : RepT C M ds vs) : RepT C M' ds vs := ⟨r.1, fun i k d k' v a b => (r.2 i k d k' v a b).monoV l⟩
theorem RepF.monoV (l : M.lev M') {ds : List (Nat × D)} {vs : List (Str × V)} (r : RepF C M ds vs) : RepF C M' ds vs := ⟨r.1, fun i k d k' v a b => (r.2 i k d k' v a b).monoV l⟩
theorem RepT.mono (l : M.le M') {ds : List (List Key × D)} {vs : List (List Key × V)} (r : RepT C M ds vs) : RepT C M' ds vs := r.monoV l.v
theorem RepL.mono (l : M.le M') {ds : List D} {vs : List V} (r : RepL C M ds vs) : RepL C M' ds vs := ⟨r.1, fun i d v a b => (r.2 i d v a b).mono l⟩
theorem RepK.mono (l : M.le M') {ds : List (Key × D)} {vs : List (Key × V)} (r : RepK C M ds vs) : RepK C M' ds vs := ⟨r.1, fun i k d k' v a b => (r.2 i k d k' v a b).mono l⟩
theorem RepF.mono (l : M.le M') {ds : List (Nat × D)} {vs : List (Str × V)} (r : RepF C M ds vs) : RepF C M' ds vs := ⟨r.1, fun i k d k' v a b => (r.2 i k d k' v a b).mono l⟩
theorem RepL.nil : RepL C M [] [] := ⟨rfl, fun i d v a _ => by simp at a⟩
theorem RepL.cons {d : D} {v : V} {ds : List D} {vs : List V} (h : Rep C M d v) (r : RepL C M ds vs) : RepL C M (d :: ds) (v :: vs) := ⟨by simp [r.1], fun i e u a b => by
  cases i with
  | zero => simp at a b; subst a b; exact h
  | succ i => exact r.2 i e u (by simpa using a) (by simpa using b)⟩
theorem RepL.nil_inv {vs : List V} (r : RepL C M [] vs) : vs = [] := by
  cases vs with
  | nil => rfl
  | cons _ _ => exact absurd r.1 (by simp)
theorem RepL.cons_inv {d : D} {ds : List D} {vs : List V} (r : RepL C M (d :: ds) vs) : ∃ v us, vs = v :: us ∧ Rep C M d v ∧ RepL C M ds us := by
  cases vs with
  | nil => exact absurd r.1 (by simp)
  | cons v us => exact ⟨v, us, rfl, r.2 0 d v rfl rfl, by simpa using r.1, fun i e u a b => r.2 (i + 1) e u (by simpa using a) (by simpa using b)⟩
theorem RepL.get {ds : List D} {vs : List V} (r : RepL C M ds vs) {i : Nat} {d : D} (h : ds[i]? = some d) : ∃ v, vs[i]? = some v ∧ Rep C M d v := by
  have hi : i < vs.length := by rw [← r.1]; exact (List.getElem?_eq_some_iff.mp h).1
  exact ⟨vs[i], List.getElem?_eq_getElem hi, r.2 i d _ h (List.getElem?_eq_getElem hi)⟩
theorem RepL.append {ds es : List D} {vs us : List V} (r : RepL C M ds vs) (q : RepL C M es us) : RepL C M (ds ++ es) (vs ++ us) := by
  induction ds generalizing vs with
  | nil => rw [r.nil_inv]; exact q
  | cons d ds ih =>
    obtain ⟨v, ws, rfl, h, t⟩ := r.cons_inv
    exact .cons h (ih t)
end

/-- an object of the store as it stands -/
def RepM (C : Cfg) (M : Wd) : MO → HO → Prop
  | .lst ds, o => ∃ vs, o = .lst vs ∧ RepL C M ds vs
  | .dct kds, o => ∃ kvs, o = .dK kvs ∧ RepK C M kds kvs
  | .dtt kds, o => ∃ kvs, o = .dT kvs ∧ RepT C M kds kvs
  | .ins c fs, o => ∃ dx fv, o = .ins (C.ga c) dx fv ∧ RepF C M fs fv
  | .lck m, o => ∃ ob u, o = .frz ob u ∧ RepM C M m u
theorem RepM.monoV {C : Cfg} {M M' : Wd} (l : M.lev M') : ∀ {m : MO} {o : HO}, RepM C M m o → RepM C M' m o
  | .lst _, _, ⟨vs, e, r⟩ => ⟨vs, e, r.monoV l⟩
  | .dct _, _, ⟨vs, e, r⟩ => ⟨vs, e, r.monoV l⟩
  | .dtt _, _, ⟨vs, e, r⟩ => ⟨vs, e, r.monoV l⟩
  | .ins _ _, _, ⟨dx, fv, e, r⟩ => ⟨dx, fv, e, r.monoV l⟩
  | .lck _, _, ⟨ob, u, e, r⟩ => ⟨ob, u, e, RepM.monoV l r⟩
theorem RepM.mono {C : Cfg} {M M' : Wd} (l : M.le M') {m : MO} {o : HO} (r : RepM C M m o) : RepM C M' m o := r.monoV l.v
theorem RepM.nofrz {C : Cfg} {M : Wd} : ∀ {m : MO} {o : HO}, RepM C M m o → m.opn = true → ∀ ob u, o ≠ .frz ob u
  | .lst _, _, ⟨_, e, _⟩, _, _, _, z => by rw [e] at z; cases z
  | .dct _, _, ⟨_, e, _⟩, _, _, _, z => by rw [e] at z; cases z
  | .dtt _, _, ⟨_, e, _⟩, _, _, _, z => by rw [e] at z; cases z
  | .ins _ _, _, ⟨_, _, e, _⟩, _, _, _, z => by rw [e] at z; cases z
  | .lck _, _, _, h, _, _, _ => by cases h

def isDk : HO → Prop
  | .dK _ => True
  | .dT _ => True
  | _ => False
/-- what is frozen stands so; a dict may be under a lock -/
def Fr (H : Hp) (a : Addr) (o : HO) : Prop := H a = some o ∨ (isDk o ∧ ∃ ob, H a = some (.frz ob o))
structure Sim (C : Cfg) (M : Wd) (S : Sto) (H : Hp) : Prop where
  fr : ∀ a o, M.fz a = some o → Fr H a o
  al : ∀ n m, S.at n = some m → ∃ a o, M.mu n = some a ∧ H a = some o ∧ M.fz a = none ∧ RepM C M m o
  inj : ∀ n n' a, (S.at n).isSome = true → (S.at n').isSome = true → M.mu n = some a → M.mu n' = some a → n = n'
  nx : ∀ n a, M.mu n = some a → n < S.nx
  lk : ∀ a od u, M.lk a = some (od, u) → H a = some (.frz od u)
  kp : ∀ a o, M.kp a = some o → H a = some o ∧ M.fz a = none ∧ (∀ vs, o ≠ .tup vs) ∧ ∀ n, (S.at n).isSome = true → M.mu n ≠ some a

section
variable {C : Cfg} {M : Wd} {S : Sto} {H : Hp}
theorem Sim.lst (s : Sim C M S H) {a : Addr} {vs : List V} (h : SqL C.K M.fz a vs) : SqL C.K H a vs := by
  rcases h with h | h
  · refine .inl ?_
    rcases h with h | ⟨o, h⟩
    · rcases s.fr _ _ h with q | ⟨q, _⟩
      · exact .inl q
      · exact q.elim
    · rcases s.fr _ _ h with q | ⟨q, _⟩
      · exact .inr ⟨o, q⟩
      · exact q.elim
  · exact .inr h
theorem Sim.tup (s : Sim C M S H) {a : Addr} {vs : List V} (h : SqT C.K M.fz a vs) : SqT C.K H a vs := by
  rcases h with h | h
  · refine .inl ?_
    rcases h with h | ⟨o, h⟩
    · rcases s.fr _ _ h with q | ⟨q, _⟩
      · exact .inl q
      · exact q.elim
    · rcases s.fr _ _ h with q | ⟨q, _⟩
      · exact .inr ⟨o, q⟩
      · exact q.elim
  · exact .inr h
theorem Sim.tupX (s : Sim C M S H) {a : Addr} {vs : List V} (h : M.fz a = some (.tup vs)) : H a = some (.tup vs) := by
  rcases s.fr _ _ h with q | ⟨q, _⟩
  · exact q
  · exact q.elim
theorem Sim.nolk (s : Sim C M S H) {a : Addr} (h : ∀ ob u, H a ≠ some (.frz ob u)) : M.lk a = none := by
  cases q : M.lk a with
  | none => rfl
  | some p => exact absurd (s.lk a p.1 p.2 q) (h _ _)
theorem Sim.ins (s : Sim C M S H) {a c dx : Addr} {fv : List (Str × V)} (h : M.fz a = some (.ins c dx fv)) : H a = some (.ins c dx fv) := by
  rcases s.fr _ _ h with q | ⟨q, _⟩
  · exact q
  · exact q.elim
/-- new: frozen at once -/
def Wd.lay (M : Wd) (a : Addr) (o : HO) : Wd := ⟨upd M.fz a o, M.mu, M.lk, M.kp⟩
def Wd.bind (M : Wd) (n : Nat) (a : Addr) : Wd := ⟨M.fz, fun k => if k = n then some a else M.mu k, M.lk, M.kp⟩
theorem lk_ne {C : Cfg} {M : Wd} {S : Sto} {H H' : Hp} (s : Sim C M S H) {a b : Addr} {od : Obj} {u : HO} {o : HO} (e : M.lk b = some (od, u)) (h : H a = none) : (upd H a o) b = some (.frz od u) := by
  have q := s.lk _ _ _ e
  rw [upd_ne (ne_of_none q h)]; exact q
theorem Sim.free (s : Sim C M S H) {a : Addr} (h : H a = none) : M.fz a = none := by
  cases q : M.fz a with
  | none => rfl
  | some o =>
    rcases s.fr _ _ q with z | ⟨_, ob, z⟩
    · rw [h] at z; cases z
    · rw [h] at z; cases z
theorem Wd.lay_le {a : Addr} {o : HO} (h : M.fz a = none) : M.le (M.lay a o) := ⟨fun b u e => by
  show upd M.fz a o b = some u
  rw [upd_ne (ne_of_none e h)]; exact e, fun _ _ e => e, fun _ _ e => e, fun _ _ e => e⟩
theorem Sim.lay (s : Sim C M S H) {a : Addr} {o : HO} (h : H a = none) : Sim C (M.lay a o) S (upd H a o) := by
  have hf := s.free h
  have l := Wd.lay_le (o := o) hf
  refine ⟨fun b u e => ?_, fun n m e => ?_, s.inj, s.nx, fun b od u e => lk_ne (H' := H) s e h, fun b u e => ?_⟩
  · by_cases hb : b = a
    · subst hb
      have e' : upd M.fz b o b = some u := e
      rw [upd_same] at e'
      cases e'
      exact .inl upd_same
    · have e' : upd M.fz a o b = some u := e
      rw [upd_ne hb] at e'
      rcases s.fr _ _ e' with q | ⟨q, ob, z⟩
      · exact .inl (by rw [upd_ne hb]; exact q)
      · exact .inr ⟨q, ob, by rw [upd_ne hb]; exact z⟩
  · obtain ⟨b, u, h1, h2, h3, h4⟩ := s.al n m e
    have hb : b ≠ a := ne_of_none h2 h
    exact ⟨b, u, h1, by rw [upd_ne hb]; exact h2, by show upd M.fz a o b = none; rw [upd_ne hb]; exact h3, h4.mono l⟩
  · obtain ⟨k1, k2, k3, k4⟩ := s.kp b u e
    have hb : b ≠ a := ne_of_none k1 h
    exact ⟨by rw [upd_ne hb]; exact k1, by show upd M.fz a o b = none; rw [upd_ne hb]; exact k2, k3, k4⟩
theorem Wd.bind_le (s : Sim C M S H) {a : Addr} : M.le (M.bind S.nx a) := ⟨fun _ _ e => e, fun k b e => by
  show (if k = S.nx then some a else M.mu k) = some b
  rw [if_neg (Nat.ne_of_lt (s.nx k b e))]; exact e, fun _ _ e => e, fun _ _ e => e⟩
/-- a new object of the store -/
theorem Sim.bindNew (s : Sim C M S H) {a : Addr} {m : MO} {o : HO} (h : H a = none) (r : RepM C M m o) : Sim C (M.bind S.nx a) (S.new m) (upd H a o) := by
  have l := Wd.bind_le s (a := a)
  have hn : ∀ n b, M.mu n = some b → n ≠ S.nx := fun n b e => Nat.ne_of_lt (s.nx n b e)
  refine ⟨fun b u e => ?_, fun n m' e => ?_, fun n n' b e e' q q' => ?_, fun n b e => ?_, fun b od u e => lk_ne (H' := H) s e h, fun b u e => ?_⟩
  · have e0 : M.fz b = some u := e
    have hb : ¬ b = a := fun z => by subst z; rw [s.free h] at e0; cases e0
    rcases s.fr _ _ e with q | ⟨q, ob, z⟩
    · exact .inl (by rw [upd_ne hb]; exact q)
    · exact .inr ⟨q, ob, by rw [upd_ne hb]; exact z⟩
  · by_cases hnn : n = S.nx
    · subst hnn
      rw [look_new] at e
      cases e
      exact ⟨a, o, if_pos rfl, upd_same, s.free h, r.mono l⟩
    · rw [look_new_ne hnn] at e
      obtain ⟨b, u, h1, h2, h3, h4⟩ := s.al n m' e
      exact ⟨b, u, l.2.1 _ _ h1, by rw [upd_ne (ne_of_none h2 h)]; exact h2, h3, h4.mono l⟩
  · have q1 : (if n = S.nx then some a else M.mu n) = some b := q
    have q2 : (if n' = S.nx then some a else M.mu n') = some b := q'
    by_cases h1 : n = S.nx
    · by_cases h2 : n' = S.nx
      · rw [h1, h2]
      · rw [if_pos h1] at q1
        rw [if_neg h2] at q2
        cases q1
        rw [look_new_ne h2] at e'
        obtain ⟨m2, em⟩ := Option.isSome_iff_exists.mp e'
        obtain ⟨b2, u2, z1, z2, _⟩ := s.al n' m2 em
        rw [q2] at z1; cases z1
        rw [h] at z2; cases z2
    · rw [if_neg h1] at q1
      rw [look_new_ne h1] at e
      by_cases h2 : n' = S.nx
      · rw [if_pos h2] at q2
        cases q2
        obtain ⟨m2, em⟩ := Option.isSome_iff_exists.mp e
        obtain ⟨b2, u2, z1, z2, _⟩ := s.al n m2 em
        rw [q1] at z1; cases z1
        rw [h] at z2; cases z2
      · rw [if_neg h2] at q2
        rw [look_new_ne h2] at e'
        exact s.inj n n' b e e' q1 q2
  · have e' : (if n = S.nx then some a else M.mu n) = some b := e
    show n < S.nx + 1
    by_cases h1 : n = S.nx
    · omega
    · rw [if_neg h1] at e'
      have := s.nx n b e'
      omega
  · obtain ⟨k1, k2, k3, k4⟩ := s.kp b u e
    have hb : b ≠ a := ne_of_none k1 h
    refine ⟨by rw [upd_ne hb]; exact k1, k2, k3, fun n hn z => ?_⟩
    have z : (if n = S.nx then some a else M.mu n) = some b := z
    by_cases h1 : n = S.nx
    · rw [if_pos h1] at z; cases z; exact hb rfl
    · rw [if_neg h1] at z
      rw [look_new_ne h1] at hn
      exact k4 n hn z
/-- an object of the store is written -/
theorem Sim.write0 (s : Sim C M S H) {n : Nat} {a : Addr} {m m' : MO} {o : HO} (hm : S.at n = some m) (ha : M.mu n = some a) (r : RepM C M m' o) (nl : M.lk a = none) : Sim C M (S.set n m') (upd H a o) := by
  obtain ⟨a', o', h1, h2, h3, hrm⟩ := s.al n m hm
  rw [ha] at h1; cases h1
  have same : ∀ j, ((S.set n m').at j).isSome = (S.at j).isSome := fun j => by
    by_cases hj : j = n
    · subst hj
      show (look (put S.ob j m') j).isSome = _
      rw [look_put_same hm, hm] <;> rfl
    · show (look (put S.ob n m') j).isSome = (look S.ob j).isSome
      rw [look_put_ne hj]
  refine ⟨fun b u e => ?_, fun j q e => ?_, fun j j' b e e' => ?_, s.nx, fun b od u e => ?_, fun b u e => ?_⟩
  · have hb : ¬ b = a := fun z => by subst z; rw [h3] at e; cases e
    rcases s.fr _ _ e with q | ⟨q, ob, z⟩
    · exact .inl (by rw [upd_ne hb]; exact q)
    · exact .inr ⟨q, ob, by rw [upd_ne hb]; exact z⟩
  · by_cases hj : j = n
    · subst hj
      have e' : look (put S.ob j m') j = some q := e
      rw [look_put_same hm] at e'
      cases e'
      exact ⟨a, o, ha, upd_same, h3, r⟩
    · have e' : look (put S.ob n m') j = some q := e
      rw [look_put_ne hj] at e'
      obtain ⟨b, u, z1, z2, z3, z4⟩ := s.al j q e'
      have hb : ¬ b = a := fun z => by
        subst z
        exact hj (s.inj j n b (by show (look S.ob j).isSome = true; rw [e']; rfl) (by rw [hm]; rfl) z1 ha)
      exact ⟨b, u, z1, by rw [upd_ne hb]; exact z2, z3, z4⟩
  · rw [same] at e e'
    exact s.inj j j' b e e'
  · have q := s.lk _ _ _ e
    have hb : ¬ b = a := fun z => by
      subst z
      rw [nl] at e; cases e
    rw [upd_ne hb]; exact q
  · obtain ⟨k1, k2, k3, k4⟩ := s.kp b u e
    have hb : ¬ b = a := fun z => k4 n (by rw [hm]; rfl) (by rw [z]; exact ha)
    exact ⟨by rw [upd_ne hb]; exact k1, k2, k3, fun j hj => k4 j (by rw [← same]; exact hj)⟩
theorem Sim.write (s : Sim C M S H) {n : Nat} {a : Addr} {m m' : MO} {o : HO} (hm : S.at n = some m) (ha : M.mu n = some a) (r : RepM C M m' o) (op : m.opn = true := by rfl) : Sim C M (S.set n m') (upd H a o) := by
  refine s.write0 hm ha r (s.nolk fun ob u z => ?_)
  obtain ⟨a', o', h1, h2, h3, hrm⟩ := s.al n m hm
  rw [ha] at h1; cases h1
  rw [h2] at z; cases z
  exact hrm.nofrz op _ _ rfl
/-! ### locks -/
def Wd.lck (M : Wd) (a : Addr) (od : Obj) (u : HO) : Wd := ⟨M.fz, M.mu, fun b => if b = a then some (od, u) else M.lk b, M.kp⟩
def Wd.unlk (M : Wd) (a : Addr) : Wd := ⟨M.fz, M.mu, fun b => if b = a then none else M.lk b, M.kp⟩
theorem Wd.lck_le {a : Addr} {od : Obj} {u : HO} (h : M.lk a = none) : M.le (M.lck a od u) := ⟨fun _ _ e => e, fun _ _ e => e, fun b p e => by
  show (if b = a then some (od, u) else M.lk b) = some p
  rw [if_neg (fun z => by rw [z, h] at e; cases e)]; exact e, fun _ _ e => e⟩
theorem Wd.lck_at {a : Addr} {od : Obj} {u : HO} : (M.lck a od u).lk a = some (od, u) := if_pos rfl
theorem Wd.unlk_le {M' : Wd} {a : Addr} (l : M.le M') (h : M.lk a = none) : M.le (M'.unlk a) := ⟨l.1, l.2.1, fun b p e => by
  show (if b = a then none else M'.lk b) = some p
  rw [if_neg (fun z => by rw [z, h] at e; cases e)]; exact l.2.2.1 b p e, l.2.2.2⟩
theorem Wd.unlk_lev {a : Addr} : M.lev (M.unlk a) := ⟨fun _ _ e => e, fun _ _ e => e⟩
theorem Sim.addlk (s : Sim C M S H) {a : Addr} {od : Obj} {u : HO} (h : H a = some (.frz od u)) : Sim C (M.lck a od u) S H := by
  refine ⟨s.fr, fun n m e => ?_, s.inj, s.nx, fun b ob w e => ?_, s.kp⟩
  · obtain ⟨b, o, h1, h2, h3, h4⟩ := s.al n m e
    exact ⟨b, o, h1, h2, h3, RepM.monoV (M := M) (M' := M.lck a od u) ⟨fun _ _ e => e, fun _ _ e => e⟩ h4⟩
  · have e' : (if b = a then some (od, u) else M.lk b) = some (ob, w) := e
    by_cases hb : b = a
    · rw [if_pos hb] at e'; cases e'; rw [hb]; exact h
    · rw [if_neg hb] at e'; exact s.lk b ob w e'
theorem Sim.drop (s : Sim C M S H) (a : Addr) : Sim C (M.unlk a) S H := by
  refine ⟨s.fr, fun n m e => ?_, s.inj, s.nx, fun b ob w e => ?_, s.kp⟩
  · obtain ⟨b, o, h1, h2, h3, h4⟩ := s.al n m e
    exact ⟨b, o, h1, h2, h3, RepM.monoV (M := M) (M' := M.unlk a) ⟨fun _ _ e => e, fun _ _ e => e⟩ h4⟩
  · have e' : (if b = a then none else M.lk b) = some (ob, w) := e
    by_cases hb : b = a
    · rw [if_pos hb] at e'; cases e'
    · rw [if_neg hb] at e'; exact s.lk b ob w e'
/-- a frozen dict's lock is set or loosened -/
theorem Sim.relock (s : Sim C M S H) {a : Addr} {u o : HO} (hf : M.fz a = some u) (nl : M.lk a = none) (h : o = u ∨ isDk u ∧ ∃ ob, o = .frz ob u) : Sim C M S (upd H a o) := by
  refine ⟨fun b w e => ?_, fun n m e => ?_, s.inj, s.nx, fun b ob w e => ?_, fun b w e => ?_⟩
  · by_cases hb : b = a
    · subst hb
      rw [hf] at e; cases e
      rcases h with rfl | ⟨d, ob, rfl⟩
      · exact .inl upd_same
      · exact .inr ⟨d, ob, upd_same⟩
    · rcases s.fr b w e with q | ⟨q, ob, z⟩
      · exact .inl (by rw [upd_ne hb]; exact q)
      · exact .inr ⟨q, ob, by rw [upd_ne hb]; exact z⟩
  · obtain ⟨b, o', h1, h2, h3, h4⟩ := s.al n m e
    have hb : ¬ b = a := fun z => by rw [z, hf] at h3; cases h3
    exact ⟨b, o', h1, by rw [upd_ne hb]; exact h2, h3, h4⟩
  · have hb : ¬ b = a := fun z => by rw [z, nl] at e; cases e
    rw [upd_ne hb]; exact s.lk b ob w e
  · obtain ⟨k1, k2, k3, k4⟩ := s.kp b w e
    have hb : ¬ b = a := fun z => by rw [z, hf] at k2; cases k2
    exact ⟨by rw [upd_ne hb]; exact k1, k2, k3, k4⟩
/-- a tuple that is there is known from here on -/
theorem Sim.track (s : Sim C M S H) {q : Addr} {vs : List V} (h : H q = some (.tup vs)) : ∃ M', M.le M' ∧ Sim C M' S H ∧ M'.fz q = some (.tup vs) := by
  cases e : M.fz q with
  | some o =>
    rcases s.fr q o e with z | ⟨d, ob, z⟩
    · rw [h] at z; cases z; exact ⟨M, .refl M, s, e⟩
    · rw [h] at z; cases z
  | none =>
    refine ⟨M.lay q (.tup vs), Wd.lay_le e, ⟨fun b w eb => ?_, fun n m em => ?_, s.inj, s.nx, s.lk, fun b w eb => ?_⟩, upd_same⟩
    · have eb' : upd M.fz q (.tup vs) b = some w := eb
      by_cases hb : b = q
      · rw [hb, upd_same] at eb'; cases eb'; rw [hb]; exact .inl h
      · rw [upd_ne hb] at eb'; exact s.fr b w eb'
    · obtain ⟨b, o', h1, h2, h3, h4⟩ := s.al n m em
      have hb : b ≠ q := fun z => by
        rw [z, h] at h2; cases h2
        cases m with
        | lst _ => obtain ⟨_, z, _⟩ := h4; cases z
        | dct _ => obtain ⟨_, z, _⟩ := h4; cases z
        | dtt _ => obtain ⟨_, z, _⟩ := h4; cases z
        | ins _ _ => obtain ⟨_, _, z, _⟩ := h4; cases z
        | lck _ => obtain ⟨_, _, z, _⟩ := h4; cases z
      exact ⟨b, o', h1, h2, by show upd M.fz q (.tup vs) b = none; rw [upd_ne hb]; exact h3, h4.mono (Wd.lay_le e)⟩
    · obtain ⟨k1, k2, k3, k4⟩ := s.kp b w eb
      have hb : b ≠ q := fun z => by rw [z, h] at k1; cases k1; exact k3 vs rfl
      exact ⟨k1, by show upd M.fz q (.tup vs) b = none; rw [upd_ne hb]; exact k2, k3, k4⟩
/-- an object of the store is frozen -/
theorem Sim.freeze (s : Sim C M S H) {n : Nat} {m : MO} (hm : S.at n = some m) : ∃ a o, M.mu n = some a ∧ RepM C M m o ∧ M.fz a = none ∧ Sim C (M.lay a o) (S.del n) H := by
  obtain ⟨a, o, h1, h2, h3, h4⟩ := s.al n m hm
  have l := Wd.lay_le (o := o) h3
  have sub : ∀ j, ((S.del n).at j).isSome = true → j ≠ n ∧ (S.at j).isSome = true := fun j e => by
    by_cases hj : j = n
    · subst hj
      have e' : (look (cut S.ob j) j).isSome = true := e
      rw [look_cut_same] at e'
      cases e'
    · have e' : (look (cut S.ob n) j).isSome = true := e
      rw [look_cut_ne hj] at e'
      exact ⟨hj, e'⟩
  refine ⟨a, o, h1, h4, h3, fun b u e => ?_, fun j q e => ?_, fun j j' b e e' => s.inj j j' b (sub j e).2 (sub j' e').2, s.nx, s.lk, fun b u e => ?_⟩
  · by_cases hb : b = a
    · subst hb
      have e' : upd M.fz b o b = some u := e
      rw [upd_same] at e'
      cases e'
      exact .inl h2
    · have e' : upd M.fz a o b = some u := e
      rw [upd_ne hb] at e'
      exact s.fr _ _ e'
  · have hj := (sub j (by rw [e]; rfl)).1
    have e' : look (cut S.ob n) j = some q := e
    rw [look_cut_ne hj] at e'
    obtain ⟨b, u, z1, z2, z3, z4⟩ := s.al j q e'
    have hb : ¬ b = a := fun z => by
      subst z
      exact hj (s.inj j n b (by show (look S.ob j).isSome = true; rw [e']; rfl) (by rw [hm]; rfl) z1 h1)
    exact ⟨b, u, z1, z2, by show upd M.fz a o b = none; rw [upd_ne hb]; exact z3, z4.mono l⟩
  · obtain ⟨k1, k2, k3, k4⟩ := s.kp b u e
    have hb : ¬ b = a := fun z => k4 n (by rw [hm]; rfl) (by rw [z]; exact h1)
    exact ⟨k1, by show upd M.fz a o b = none; rw [upd_ne hb]; exact k2, k3, fun j hj => k4 j (sub j hj).2⟩
end
end Pd

namespace Pd
open PySem PySem.Spec L2

/-! ### results -/
inductive Res (α : Type) where
  | ok (a : α) (S : Sto)
  | exc (c : Nat) (fs : List (Nat × D)) (S : Sto)
  | bad
def Res.bind {α β : Type} (r : Res α) (f : α → Sto → Res β) : Res β := match r with
  | .ok a S => f a S
  | .exc c fs S => .exc c fs S
  | .bad => .bad
abbrev Ga := List (Option D)
/-- an expression: slots, store -/
abbrev DE := Ga → Sto → Res D
abbrev DA := Ga → Sto → Res (List D)
inductive SRes where
  | nx (Γ : Ga) (S : Sto) | rt (d : D) (S : Sto) | bk (Γ : Ga) (S : Sto) | ct (Γ : Ga) (S : Sto)
  | exc (c : Nat) (fs : List (Nat × D)) (S : Sto)
  | bad
abbrev DS := Ga → Sto → SRes

section
variable (C : Cfg)
/-- how an exception lies: its class, its own dict -/
def RepX (M : Wd) (H : Hp) (cls : Value) (dd : Option Addr) (c : Nat) (fs : List (Nat × D)) : Prop :=
  cls = .ref (C.ga c) ∧ ((dd = none ∧ fs = []) ∨ ∃ d fv, dd = some d ∧ H d = some (.xd fv) ∧ M.fz d = none ∧ RepF C M fs fv)
def Good {α : Type} (R : Wd → α → V → Prop) (M : Wd) (r : Res α) (Q : VK) (E : XK) : Prop := match r with
  | .ok a S => ∀ M' v H', M.le M' → Sim C M' S H' → R M' a v → Q v H'
  | .exc c fs S => ∀ M' cls dd H', M.le M' → Sim C M' S H' → RepX C M' H' cls dd c fs → E cls dd H'
  | .bad => False
def SimG (M : Wd) (Γ : Ga) (σ : St) : Prop := Γ.length = σ.length ∧ ∀ (i : Nat) d, Γ[i]? = some (some d) → ∃ v, σ[i]? = some (some v) ∧ Rep C M d v
def GoodA (M : Wd) (r : Res (List D)) (Q : List V → Hp → Prop) (E : XK) : Prop := match r with
  | .ok a S => ∀ M' vs H', M.le M' → Sim C M' S H' → RepL C M' a vs → Q vs H'
  | .exc c fs S => ∀ M' cls dd H', M.le M' → Sim C M' S H' → RepX C M' H' cls dd c fs → E cls dd H'
  | .bad => False
def GoodB (M : Wd) (r : Res Bool) (Q : Bool → Hp → Prop) (E : XK) : Prop := match r with
  | .ok b S => ∀ M' H', M.le M' → Sim C M' S H' → Q b H'
  | .exc c fs S => ∀ M' cls dd H', M.le M' → Sim C M' S H' → RepX C M' H' cls dd c fs → E cls dd H'
  | .bad => False
def GoodE (M : Wd) (r : Res D) (Q : VK) (E : XK) : Prop := Good C (Rep C) M r Q E
def GoodS (W : WX) (M : Wd) (r : SRes) (D : Ends) : Prop := match r with
  | .nx Γ S => ∀ M' σ' H', M.le M' → SimG C M' Γ σ' → Sim C M' S H' → D.nx σ' H'
  | .rt d S => ∀ M' v H', M.le M' → Sim C M' S H' → Rep C M' d v → D.rt v H'
  | .bk Γ S => ∀ M' σ' H', M.le M' → SimG C M' Γ σ' → Sim C M' S H' → D.bk σ' H'
  | .ct Γ S => ∀ M' σ' H', M.le M' → SimG C M' Γ σ' → Sim C M' S H' → D.ct σ' H'
  | .exc c fs S => ∀ M' σ' cls dd H', M.le M' → Sim C M' S H' → RepX C M' H' cls dd c fs → W cls dd σ' H'
  | .bad => False
/-- the readings by data. W: what is wanted of an exception, whatever the slots -/
def tE (W : XK) (f : DE) : TE := fun σ H Q => ∃ M Γ S, SimG C M Γ σ ∧ Sim C M S H ∧ GoodE C M (f Γ S) Q W
def tT (W : XK) (f : Ga → Sto → Res Bool) : TT := fun σ H Q => ∃ M Γ S, SimG C M Γ σ ∧ Sim C M S H ∧ GoodB C M (f Γ S) Q W
def tA (W : XK) (f : DA) : TA := fun σ H Q => ∃ M Γ S, SimG C M Γ σ ∧ Sim C M S H ∧ GoodA C M (f Γ S) Q W
def tS (W : XK) (f : DS) : TS := fun D σ H => ∃ M Γ S, SimG C M Γ σ ∧ Sim C M S H ∧ GoodS C (fun c d _ H => W c d H) M (f Γ S) D
end

section
variable {C : Cfg} {M M' : Wd} {Γ : Ga} {S : Sto} {σ : St} {H : Hp} {W : XK}
theorem SimG.mono (l : M.le M') (g : SimG C M Γ σ) : SimG C M' Γ σ := ⟨g.1, fun i d e => let ⟨v, a, r⟩ := g.2 i d e; ⟨v, a, r.mono l⟩⟩
theorem GoodE.mono (l : M.le M') {r : Res D} {Q : VK} (g : GoodE C M r Q W) : GoodE C M' r Q W := by
  cases r with
  | ok a S => exact fun M2 v H' l2 => g M2 v H' (l.trans l2)
  | exc c fs S => exact fun M2 c' d H' l2 => g M2 c' d H' (l.trans l2)
  | bad => exact g
theorem GoodE.imp {r : Res D} {Q Q' : VK} (g : GoodE C M r Q W) (h : ∀ v H, Q v H → Q' v H) : GoodE C M r Q' W := by
  cases r with
  | ok a S => exact fun M2 v H' l2 s r => h _ _ (g M2 v H' l2 s r)
  | exc c fs S => exact g
  | bad => exact g
theorem GoodA.mono (l : M.le M') {r : Res (List D)} {Q : List V → Hp → Prop} (g : GoodA C M r Q W) : GoodA C M' r Q W := by
  cases r with
  | ok a S => exact fun M2 v H' l2 => g M2 v H' (l.trans l2)
  | exc c fs S => exact fun M2 c' d H' l2 => g M2 c' d H' (l.trans l2)
  | bad => exact g
theorem GoodB.mono (l : M.le M') {r : Res Bool} {Q : Bool → Hp → Prop} (g : GoodB C M r Q W) : GoodB C M' r Q W := by
  cases r with
  | ok a S => exact fun M2 H' l2 => g M2 H' (l.trans l2)
  | exc c fs S => exact fun M2 c' d H' l2 => g M2 c' d H' (l.trans l2)
  | bad => exact g
theorem GoodS.mono (l : M.le M') {r : SRes} {D : Ends} {W : WX} (g : GoodS C W M r D) : GoodS C W M' r D := by
  cases r with
  | nx Γ S => exact fun M2 σ' H' l2 => g M2 σ' H' (l.trans l2)
  | rt d S => exact fun M2 v H' l2 => g M2 v H' (l.trans l2)
  | bk Γ S => exact fun M2 σ' H' l2 => g M2 σ' H' (l.trans l2)
  | ct Γ S => exact fun M2 σ' H' l2 => g M2 σ' H' (l.trans l2)
  | exc c fs S => exact fun M2 σ' c' d H' l2 => g M2 σ' c' d H' (l.trans l2)
  | bad => exact g
/-- a value at once -/
theorem GoodE.ok {d : D} {v : V} {Q : VK} (g : GoodE C M (.ok d S) Q W) (s : Sim C M S H) (r : Rep C M d v) : Q v H := g M v H (.refl M) s r
end

/-! ### plumbing: t by a stronger reading -/
section
variable {X : Cx}
theorem _root_.L2.PE.by {e : Expr} {t t' : TE} (h : PE X e t) (i : ∀ σ H Q, t' σ H Q → t σ H Q) : PE X e t' := ⟨fun pins s σ H Q I q => h.run pins s σ H Q I (i σ H Q q)⟩
theorem _root_.L2.PT.by {e : Expr} {t t' : TT} (h : PT X e t) (i : ∀ σ H Q, t' σ H Q → t σ H Q) : PT X e t' := ⟨fun pins s σ H Q I q => h.run pins s σ H Q I (i σ H Q q)⟩
theorem _root_.L2.PA.by {e : List Expr} {t t' : TA} (h : PA X e t) (i : ∀ σ H Q, t' σ H Q → t σ H Q) : PA X e t' := ⟨fun p pins s σ H Q I q => h.run p pins s σ H Q I (i σ H Q q)⟩
theorem _root_.L2.PS.by {e : Stmt} {t t' : TS} (h : PS X e t) (i : ∀ D σ H, t' D σ H → t D σ H) : PS X e t' := ⟨fun pins s σ H D I q => h.run pins s σ H D I (i D σ H q)⟩
theorem _root_.L2.PSs.by {e : List Stmt} {t t' : TS} (h : PSs X e t) (i : ∀ D σ H, t' D σ H → t D σ H) : PSs X e t' := ⟨fun pins s σ H D I q => h.run pins s σ H D I (i D σ H q)⟩
end

section
variable {C : Cfg} {W : XK} {M : Wd} {Γ : Ga} {S : Sto} {σ : St} {H : Hp}
/-- two expressions in a row, by data -/
theorem run2 {fa fb : DE} {f : D → D → Sto → Res D} {Q : VK} {K2 : V → V → Hp → Prop} (g : SimG C M Γ σ) (s : Sim C M S H) (h : GoodE C M ((fa Γ S).bind fun a S1 => (fb Γ S1).bind fun b S2 => f a b S2) Q W)
    (k : ∀ M' a b S' x y H', M.le M' → Sim C M' S' H' → Rep C M' a x → Rep C M' b y → GoodE C M' (f a b S') Q W → K2 x y H') :
    tE C W fa σ H fun x H1 => tE C W fb σ H1 fun y H2 => K2 x y H2 := by
  refine ⟨M, Γ, S, g, s, ?_⟩
  cases ea : fa Γ S with
  | bad => rw [ea] at h; exact h
  | exc c fs S1 => rw [ea] at h; exact h
  | ok a S1 =>
    rw [ea] at h
    intro M1 x H1 l1 s1 r1
    refine ⟨M1, Γ, S1, g.mono l1, s1, ?_⟩
    have h1 : GoodE C M ((fb Γ S1).bind fun b S2 => f a b S2) Q W := h
    have h2 := h1.mono l1
    cases eb : fb Γ S1 with
    | bad => rw [eb] at h2; exact h2
    | exc c fs S2 => rw [eb] at h2; exact h2
    | ok b S2 =>
      rw [eb] at h2
      intro M2 y H2 l2 s2 r2
      exact k M2 a b S2 x y H2 (l1.trans l2) s2 (r1.mono l2) r2 (GoodE.mono l2 h2)
theorem run1 {fa : DE} {f : D → Sto → Res D} {Q : VK} {K1 : V → Hp → Prop} (g : SimG C M Γ σ) (s : Sim C M S H) (h : GoodE C M ((fa Γ S).bind fun a S1 => f a S1) Q W)
    (k : ∀ M' a S' x H', M.le M' → Sim C M' S' H' → Rep C M' a x → GoodE C M' (f a S') Q W → K1 x H') : tE C W fa σ H K1 := by
  refine ⟨M, Γ, S, g, s, ?_⟩
  cases ea : fa Γ S with
  | bad => rw [ea] at h; exact h
  | exc c fs S1 => rw [ea] at h; exact h
  | ok a S1 =>
    rw [ea] at h
    intro M1 x H1 l1 s1 r1
    exact k M1 a S1 x H1 l1 s1 r1 (GoodE.mono l1 h)
end

/-! ### names, constants -/
section
variable {X : Cx} {C : Cfg} {W : XK}
def dVar (i : Nat) : DE := fun Γ S => match Γ[i]? with
  | some (some d) => .ok d S
  | _ => .bad
def dC (d : D) : DE := fun _ S => .ok d S
theorem xv (i : Nat) {x : Str} {pos : Pos} (hN : X.N[i]? = some x := by rfl) (hv : Vis X.env.scope x := by first | exact Or.inl rfl | exact Or.inr (Or.inl rfl) | exact Or.inr (Or.inr rfl)) (hd : (x == ("__debug__" : Str)) = false := by decide)
    (hcd : (x == ("__classdict__" : Str)) = false := by decide) : PE X (.Name x pos) (tE C W (dVar i)) :=
  (pe_var hN hv hd hcd).by fun σ H Q ⟨M, Γ, S, g, s, h⟩ => by
    unfold dVar at h
    split at h
    · rename_i d e
      obtain ⟨v, e2, r⟩ := g.2 i d e
      exact ⟨v, e2, GoodE.ok h s r⟩
    · exact h.elim
theorem cst {e : Expr} {v : V} {d : D} (h : PE X e (tC v)) (r : ∀ M, Rep C M d v) : PE X e (tE C W (dC d)) := h.by fun σ H Q ⟨M, Γ, S, g, s, q⟩ => GoodE.ok (C := C) q s (r M)
theorem xint {i : Int} {j pos} : PE X (.Constant (.int i) j pos) (tE C W (dC (.int i))) := cst pe_int fun _ => .int i
theorem xbl {i : Bool} {j pos} : PE X (.Constant (.bool i) j pos) (tE C W (dC (.bl i))) := cst pe_bl fun _ => .bl i
theorem xnon {j pos} : PE X (.Constant .none j pos) (tE C W (dC .non)) := cst pe_non fun _ => .non
theorem xstr {x : Str} {y : Str} {j pos} (h : x = y) : PE X (.Constant (.str x) j pos) (tE C W (dC (.str y))) := by subst h; exact cst pe_str fun _ => .str x
end

/-! ### operators by data -/
/-- an operator's rule: f on data gives what the model's operation gives -/
def OpD (X : Cx) (C : Cfg) (W : XK) (op : Value → Value → Sem Value) (f : D → D → Sto → Res D) : Prop :=
  ∃ r : R2, OpR X op r ∧ ∀ M S H a b x y Q, Sim C M S H → Rep C M a x → Rep C M b y → GoodE C M (f a b S) Q W → r x y H Q
def d2 (f : D → D → Sto → Res D) (fa fb : DE) : DE := fun Γ S => (fa Γ S).bind fun a S1 => (fb Γ S1).bind fun b S2 => f a b S2
section
variable {X : Cx} {C : Cfg} {W : XK} {fa fb : DE} {a b : Expr} {pos : Pos} {f : D → D → Sto → Res D}
theorem xbin {op : Operator} (ho : OpD X C W (binaryOp op) f) (ha : PE X a (tE C W fa)) (hb : PE X b (tE C W fb)) : PE X (.BinOp a op b pos) (tE C W (d2 f fa fb)) := by
  obtain ⟨r, hr, k⟩ := ho
  exact (pe_op hr ha hb).by fun σ H Q ⟨M, Γ, S, g, s, h⟩ => run2 g s h fun M' a b S' x y H' l s' ra rb q => k M' S' H' a b x y Q s' ra rb q
theorem xcmp {op : CmpOp} (ho : OpD X C W (compareOp op) f) (ha : PE X a (tE C W fa)) (hb : PE X b (tE C W fb)) (hm : behindInMarks op b = false) : PE X (.Compare a [op] [b] pos) (tE C W (d2 f fa fb)) := by
  obtain ⟨r, hr, k⟩ := ho
  exact (pe_cmpR hr ha hb hm).by fun σ H Q ⟨M, Γ, S, g, s, h⟩ => run2 g s h fun M' a b S' x y H' l s' ra rb q => k M' S' H' a b x y Q s' ra rb q
theorem OpD.or {op : Value → Value → Sem Value} {f' : D → D → Sto → Res D} (h : OpD X C W op f) (h' : OpD X C W op f') (p : D → D → Sto → Bool) : OpD X C W op (fun a b S => match p a b S with | true => f a b S | false => f' a b S) := by
  obtain ⟨r, hr, k⟩ := h
  obtain ⟨r', hr', k'⟩ := h'
  refine ⟨fun x y H Q => r x y H Q ∨ r' x y H Q, hr.or hr', fun M S H a b x y Q s ra rb q => ?_⟩
  have q : GoodE C M (match p a b S with | true => f a b S | false => f' a b S) Q W := q
  cases e : p a b S with
  | true => rw [e] at q; exact .inl (k M S H a b x y Q s ra rb q)
  | false => rw [e] at q; exact .inr (k' M S H a b x y Q s ra rb q)
end
end Pd

namespace Pd
open PySem PySem.Spec L2

/-! ### views -/
def lstV (S : Sto) : D → Option (List D)
  | .lst ds => some ds
  | .frl ds => some ds
  | .ref n => (match S.at n with
    | some (.lst ds) => some ds
    | _ => none)
  | _ => none
def lstX (S : Sto) : D → Option (List D)
  | .lst ds => some ds
  | .ref n => (match S.at n with
    | some (.lst ds) => some ds
    | _ => none)
  | _ => none
def tupV : D → Option (List D)
  | .tup ds => some ds
  | .ctp ds => some ds
  | _ => none
def dctV (S : Sto) : D → Option (List (Key × D))
  | .dct ds => some ds
  | .ref n => (match S.at n with
    | some (.dct ds) => some ds
    | some (.lck (.dct ds)) => some ds
    | _ => none)
  | _ => none
/-- a dict of tuple keys -/
def dttV (S : Sto) : D → Option (List (List Key × D))
  | .dtt ds => some ds
  | .ref n => (match S.at n with
    | some (.dtt ds) => some ds
    | some (.lck (.dtt ds)) => some ds
    | _ => none)
  | _ => none
def insV (S : Sto) : D → Option (Nat × List (Nat × D))
  | .ins c fs => some (c, fs)
  | .ref n => (match S.at n with
    | some (.ins c fs) => some (c, fs)
    | _ => none)
  | _ => none
section
variable {C : Cfg} {W : XK} {M : Wd} {S : Sto} {H : Hp} {d : D} {v : V}
theorem lst_of {ds : List D} (s : Sim C M S H) (r : Rep C M d v) (h : lstV S d = some ds) : ∃ a vs, v = .ref a ∧ SqL C.K H a vs ∧ RepL C M ds vs := by
  cases r with
  | lst hq hl hr => cases h; exact ⟨_, _, rfl, s.lst (.inl (.inl hq)), hl, hr⟩
  | frl hq hl hr => cases h; exact ⟨_, _, rfl, s.lst hq, hl, hr⟩
  | ref hm =>
    rename_i n a
    have h' : (match S.at n with | some (.lst ds) => some ds | _ => none) = some ds := h
    split at h'
    · rename_i ds' e
      cases h'
      obtain ⟨b, o, h1, h2, h3, vs, rfl, r⟩ := s.al n _ e
      rw [hm] at h1; cases h1
      exact ⟨a, vs, rfl, .inl (.inl h2), r⟩
    · cases h'
  | _ => cases h
theorem lstX_of {ds : List D} (s : Sim C M S H) (r : Rep C M d v) (h : lstX S d = some ds) : ∃ a vs, v = .ref a ∧ H a = some (.lst vs) ∧ RepL C M ds vs := by
  cases r with
  | lst hq hl hr =>
    cases h
    rcases s.fr _ _ hq with z | ⟨z, _⟩
    · exact ⟨_, _, rfl, z, hl, hr⟩
    · exact z.elim
  | ref hm =>
    rename_i n a
    have h' : (match S.at n with | some (.lst ds) => some ds | _ => none) = some ds := h
    split at h'
    · rename_i ds' e
      cases h'
      obtain ⟨b, o, h1, h2, h3, vs, rfl, r⟩ := s.al n _ e
      rw [hm] at h1; cases h1
      exact ⟨a, vs, rfl, h2, r⟩
    · cases h'
  | _ => cases h
theorem tup_of {ds : List D} (s : Sim C M S H) (r : Rep C M d v) (h : tupV d = some ds) : ∃ a vs, v = .ref a ∧ SqT C.K H a vs ∧ RepL C M ds vs := by
  cases r with
  | tup hq hl hr => cases h; exact ⟨_, _, rfl, s.tup (.inl (.inl hq)), hl, hr⟩
  | ctp hq hl hr => cases h; exact ⟨_, _, rfl, s.tup hq.sq, hl, hr⟩
  | _ => cases h
theorem dct_of {ds : List (Key × D)} (s : Sim C M S H) (r : Rep C M d v) (h : dctV S d = some ds) : ∃ a vs, v = .ref a ∧ Rd H a (.dK vs) ∧ RepK C M ds vs := by
  cases r with
  | dct hq hl hr =>
    cases h
    refine ⟨_, _, rfl, ?_, hl, hr⟩
    rcases hq with hq | ⟨o, hq⟩
    · rcases s.fr _ _ hq with z | ⟨_, ob, z⟩
      · exact .inl z
      · exact .inr ⟨ob, z⟩
    · rcases s.fr _ _ hq with z | ⟨z, _⟩
      · exact .inr ⟨o, z⟩
      · exact z.elim
  | ref hm =>
    rename_i n a
    have h' : (match S.at n with | some (.dct ds) => some ds | some (.lck (.dct ds)) => some ds | _ => none) = some ds := h
    split at h'
    · rename_i ds' e
      cases h'
      obtain ⟨b, o, h1, h2, h3, vs, rfl, r⟩ := s.al n _ e
      rw [hm] at h1; cases h1
      exact ⟨a, vs, rfl, .inl h2, r⟩
    · rename_i ds' e
      cases h'
      obtain ⟨b, o, h1, h2, h3, ob, u, rfl, vs, rfl, r⟩ := s.al n _ e
      rw [hm] at h1; cases h1
      exact ⟨a, vs, rfl, .inr ⟨ob, h2⟩, r⟩
    · cases h'
  | _ => cases h
theorem dtt_of {ds : List (List Key × D)} (s : Sim C M S H) (r : Rep C M d v) (h : dttV S d = some ds) : ∃ a vs, v = .ref a ∧ Rd H a (.dT vs) ∧ RepT C M ds vs := by
  cases r with
  | dtt hq hl hr =>
    cases h
    refine ⟨_, _, rfl, ?_, hl, hr⟩
    rcases hq with hq | ⟨o, hq⟩
    · rcases s.fr _ _ hq with z | ⟨_, ob, z⟩
      · exact .inl z
      · exact .inr ⟨ob, z⟩
    · rcases s.fr _ _ hq with z | ⟨z, _⟩
      · exact .inr ⟨o, z⟩
      · exact z.elim
  | ref hm =>
    rename_i n a
    have h' : (match S.at n with | some (.dtt ds) => some ds | some (.lck (.dtt ds)) => some ds | _ => none) = some ds := h
    split at h'
    · rename_i ds' e
      cases h'
      obtain ⟨b, o, h1, h2, h3, vs, rfl, r⟩ := s.al n _ e
      rw [hm] at h1; cases h1
      exact ⟨a, vs, rfl, .inl h2, r⟩
    · rename_i ds' e
      cases h'
      obtain ⟨b, o, h1, h2, h3, ob, u, rfl, vs, rfl, r⟩ := s.al n _ e
      rw [hm] at h1; cases h1
      exact ⟨a, vs, rfl, .inr ⟨ob, h2⟩, r⟩
    · cases h'
  | _ => cases h
theorem ins_of {c : Nat} {fs : List (Nat × D)} (s : Sim C M S H) (r : Rep C M d v) (h : insV S d = some (c, fs)) : ∃ a dx fv, v = .ref a ∧ H a = some (.ins (C.ga c) dx fv) ∧ RepF C M fs fv := by
  cases r with
  | ins hq hl hr => cases h; exact ⟨_, _, _, rfl, s.ins hq, hl, hr⟩
  | ref hm =>
    rename_i n a
    have h' : (match S.at n with | some (.ins c fs) => some (c, fs) | _ => none) = some (c, fs) := h
    split at h'
    · rename_i c' fs' e
      cases h'
      obtain ⟨b, o, h1, h2, h3, dx, fv, rfl, r⟩ := s.al n _ e
      rw [hm] at h1; cases h1
      exact ⟨a, dx, fv, rfl, h2, r⟩
    · cases h'
  | _ => cases h

/-! ### new things -/
theorem newTup {ds : List D} {vs : List V} {Q : VK} {p : Addr} (q : GoodE C M (.ok (.tup ds) S) Q W) (s : Sim C M S H) (r : RepL C M ds vs) (hp : H p = none) : Q (.ref p) (upd H p (.tup vs)) := by
  have l : M.le (M.lay p (.tup vs)) := Wd.lay_le (s.free hp)
  exact q _ _ _ l (s.lay hp) (.tup (show upd M.fz p (.tup vs) p = _ from upd_same) r.1 (r.mono l).2)
theorem newLst {ds : List D} {vs : List V} {Q : VK} {p : Addr} (q : GoodE C M (.ok (.lst ds) S) Q W) (s : Sim C M S H) (r : RepL C M ds vs) (hp : H p = none) : Q (.ref p) (upd H p (.lst vs)) := by
  have l : M.le (M.lay p (.lst vs)) := Wd.lay_le (s.free hp)
  exact q _ _ _ l (s.lay hp) (.lst (show upd M.fz p (.lst vs) p = _ from upd_same) r.1 (r.mono l).2)
theorem newDct {ds : List (Key × D)} {vs : List (Key × V)} {Q : VK} {p : Addr} (q : GoodE C M (.ok (.dct ds) S) Q W) (s : Sim C M S H) (r : RepK C M ds vs) (hp : H p = none) : Q (.ref p) (upd H p (.dK vs)) := by
  have l : M.le (M.lay p (.dK vs)) := Wd.lay_le (s.free hp)
  exact q _ _ _ l (s.lay hp) (.dct (.inl (show upd M.fz p (.dK vs) p = _ from upd_same)) r.1 (r.mono l).2)
theorem newDtt {ds : List (List Key × D)} {vs : List (List Key × V)} {Q : VK} {p : Addr} (q : GoodE C M (.ok (.dtt ds) S) Q W) (s : Sim C M S H) (r : RepT C M ds vs) (hp : H p = none) : Q (.ref p) (upd H p (.dT vs)) := by
  have l : M.le (M.lay p (.dT vs)) := Wd.lay_le (s.free hp)
  exact q _ _ _ l (s.lay hp) (.dtt (.inl (show upd M.fz p (.dT vs) p = _ from upd_same)) r.1 (r.mono l).2)
/-- .. into the store -/
theorem newSto {m : MO} {o : HO} {Q : VK} {p : Addr} (q : GoodE C M (.ok (.ref S.nx) (S.new m)) Q W) (s : Sim C M S H) (r : RepM C M m o) (hp : H p = none) : Q (.ref p) (upd H p o) :=
  q _ _ _ (Wd.bind_le s) (s.bindNew hp r) (.ref (show (if S.nx = S.nx then some p else M.mu S.nx) = some p from if_pos rfl))
end

/-! ### numbers -/
abbrev ltB := PySem.W.Z.ltB
abbrev leB := PySem.W.Z.leB
theorem bool_dec {b : Bool} {p : Prop} [Decidable p] (h : b = true ↔ p) : b = decide p := by
  cases b with
  | true => exact (decide_eq_true (h.mp rfl)).symm
  | false => exact (decide_eq_false fun q => by cases h.mpr q).symm
theorem ltB_eq (a b : Int) : ltB a b = decide (a < b) := bool_dec (PySem.W.Z.ltB_iff a b)
theorem leB_eq (a b : Int) : leB a b = decide (a ≤ b) := bool_dec (PySem.W.Z.leB_iff a b)
theorem eqB_eq (a b : Int) : eqB a b = decide (a = b) := bool_dec (PySem.W.Z.eqB_iff a b)
/-- small enough for a product -/
def small (i : Int) : Bool := Nat.blt i.natAbs 18446744073709551616
theorem small_ok {i : Int} (h : small i = true) : -(2 ^ 64) < i ∧ i < 2 ^ 64 := by
  have h1 : i.natAbs < 18446744073709551616 := Nat.le_of_ble_eq_true h
  constructor <;> omega
def lineOk (n : Nat) : Bool := Nat.ble n 1000000
theorem lineOk_ok {n : Nat} (h : lineOk n = true) : n ≤ sizeLine := by
  have h1 : n ≤ 1000000 := Nat.le_of_ble_eq_true h
  rw [sizeLine_eq]; omega
theorem lineOk_lt {n : Nat} (h : lineOk (n + 1) = true) : n < sizeLine := lineOk_ok h
def guard {α : Type} (b : Bool) (r : Res α) : Res α := match b with
  | true => r
  | false => .bad
theorem guard_ok {C : Cfg} {M : Wd} {Q : VK} {W : XK} {b : Bool} {r : Res D} (h : GoodE C M (guard b r) Q W) : b = true ∧ GoodE C M r Q W := by
  cases b with
  | true => exact ⟨rfl, h⟩
  | false => exact h.elim

/-! ### + -/
/-- two tuples, the left one not empty -/
def catT (a : D) (xs ys : List D) (S : Sto) : Res D := match xs, ys with
  | x :: xs, [] => guard (lineOk (xs.length + 1)) (.ok a S)
  | x :: xs, y :: ys => guard (lineOk ((x :: xs).length + (y :: ys).length)) (.ok (.tup (x :: xs ++ y :: ys)) S)
  | _, _ => .bad
def fAdd : D → D → Sto → Res D := fun a b S => match a, b with
  | .int i, .int j => .ok (.int (i + j)) S
  | .str x, .str y => guard (lineOk (x.length + y.length)) (.ok (.str (x ++ y)) S)
  | a, b => (match tupV a with
    | some xs => (match tupV b with
      | some ys => catT a xs ys S
      | none => .bad)
    | none => (match lstX S a, lstX S b with
      | some xs, some ys => guard (lineOk (xs.length + ys.length)) (.ok (.lst (xs ++ ys)) S)
      | _, _ => .bad))
section
variable {X : Cx} {C : Cfg} {W : XK}
theorem addL (M : Wd) (S : Sto) (H : Hp) (a b : D) (x y : V) (Q : VK) (s : Sim C M S H) (ra : Rep C M a x) (rb : Rep C M b y) (q : GoodE C M (match lstX S a, lstX S b with
    | some xs, some ys => guard (lineOk (xs.length + ys.length)) (.ok (.lst (xs ++ ys)) S)
    | _, _ => .bad) Q W) : rCat x y H Q := by
  split at q
  · rename_i xs ys e1 e2
    obtain ⟨l, vs, rfl, h1, r1⟩ := lstX_of s ra e1
    obtain ⟨m, ws, rfl, h2, r2⟩ := lstX_of s rb e2
    obtain ⟨g, q⟩ := guard_ok q
    refine ⟨l, m, vs, ws, rfl, rfl, h1, h2, ?_, fun p hp => newLst q s (r1.append r2) hp⟩
    rw [← r1.1, ← r2.1]; exact lineOk_ok g
  · exact q.elim
theorem oAdd (hK : X.K = C.K) : OpD X C W (binaryOp .Add) fAdd := by
  refine ⟨_, op_add.or (op_add_str.or (op_catT.or op_cat)), fun M S H a b x y Q s ra rb q => ?_⟩
  unfold fAdd at q
  split at q
  · cases ra; cases rb
    exact .inl ⟨_, _, rfl, rfl, q.ok s (.int _)⟩
  · cases ra; cases rb
    obtain ⟨g, q⟩ := guard_ok q
    exact .inr (.inl ⟨_, _, rfl, rfl, lineOk_ok g, q.ok s (.str _)⟩)
  · split at q
    · rename_i xs e1
      split at q
      · rename_i ys e2
        obtain ⟨l, vs, rfl, h1, r1⟩ := tup_of s ra e1
        obtain ⟨m, ws, rfl, h2, r2⟩ := tup_of s rb e2
        unfold catT at q
        split at q
        · obtain ⟨g, q⟩ := guard_ok q
          rw [r2.nil_inv] at h2
          refine .inr (.inr (.inl ⟨l, m, vs, [], rfl, rfl, hK ▸ h1, hK ▸ h2, ?_, ?_, fun _ => q.ok s ra, fun z => absurd rfl z⟩))
          · intro e; rw [e] at r1; exact absurd r1.1 (by simp)
          · rw [← r1.1]; exact lineOk_ok g
        · obtain ⟨g, q⟩ := guard_ok q
          refine .inr (.inr (.inl ⟨l, m, vs, ws, rfl, rfl, hK ▸ h1, hK ▸ h2, ?_, ?_, fun z => ?_, fun _ p hp => newTup q s (r1.append r2) hp⟩))
          · intro e; rw [e] at r1; exact absurd r1.1 (by simp)
          · rw [← r1.1, ← r2.1]; exact lineOk_ok g
          · rw [z] at r2; exact absurd r2.1 (by simp)
        · exact q.elim
      · exact q.elim
    · exact .inr (.inr (.inr (addL M S H _ _ x y Q s ra rb q)))
/-! ### - * // % -/
def fSub : D → D → Sto → Res D := fun a b S => match a, b with
  | .int i, .int j => .ok (.int (i - j)) S
  | _, _ => .bad
theorem oSub : OpD X C W (binaryOp .Sub) fSub := by
  refine ⟨_, op_sub, fun M S H a b x y Q s ra rb q => ?_⟩
  unfold fSub at q
  split at q
  · cases ra; cases rb
    exact ⟨_, _, rfl, rfl, q.ok s (.int _)⟩
  · exact q.elim
def repD (xs : List D) : Nat → List D
  | 0 => []
  | n + 1 => xs ++ repD xs n
theorem repD_ok {M : Wd} {ds : List D} {vs : List V} (r : RepL C M ds vs) : ∀ n, RepL C M (repD ds n) (List.replicate n vs).flatten
  | 0 => .nil
  | n + 1 => by
    rw [List.replicate_succ, List.flatten_cons]; exact r.append (repD_ok r n)
def fMul : D → D → Sto → Res D := fun a b S => match a, b with
  | .int i, .int j => guard (small i || small j) (.ok (.int (i * j)) S)
  | a, .int (.ofNat k) => (match lstX S a with
    | some xs => guard (lineOk (xs.length * k) && lineOk k) (.ok (.lst (repD xs k)) S)
    | none => .bad)
  | _, _ => .bad
theorem oMul : OpD X C W (binaryOp .Mult) fMul := by
  refine ⟨_, op_mul.or op_rep, fun M S H a b x y Q s ra rb q => ?_⟩
  unfold fMul at q
  split at q
  · cases ra; cases rb
    obtain ⟨g, q⟩ := guard_ok q
    refine .inl ⟨_, _, rfl, rfl, ?_, q.ok s (.int _)⟩
    rcases Bool.or_eq_true_iff.mp g with g | g
    · exact .inl (small_ok g)
    · exact .inr (small_ok g)
  · split at q
    · rename_i a k _ _ xs e
      obtain ⟨g, q⟩ := guard_ok q
      obtain ⟨g1, g2⟩ := Bool.and_eq_true_iff.mp g
      obtain ⟨l, vs, rfl, h1, r1⟩ := lstX_of s ra e
      cases rb
      have gk : k ≤ 1000000 := Nat.le_of_ble_eq_true (show Nat.ble k 1000000 = true from g2)
      refine .inr ⟨l, _, vs, rfl, rfl, h1, by show -(2 ^ 63) ≤ ((k : Nat) : Int); omega, by show ((k : Nat) : Int) < 2 ^ 63; omega, ?_, fun p hp => newLst q s (repD_ok r1 k) hp⟩
      show vs.length * k ≤ sizeLine
      rw [← r1.1]; exact lineOk_ok g1
    · exact q.elim
  · exact q.elim
def divOk (j : Int) : Bool := Nat.blt 0 j.natAbs && Nat.blt j.natAbs 1073741824
def fDiv : D → D → Sto → Res D := fun a b S => match a, b with
  | .int i, .int j => guard (divOk j) (.ok (.int (i.fdiv j)) S)
  | _, _ => .bad
theorem oDiv : OpD X C W (binaryOp .FloorDiv) fDiv := by
  refine ⟨_, op_fdivN, fun M S H a b x y Q s ra rb q => ?_⟩
  unfold fDiv at q
  split at q
  · rename_i i j
    cases ra; cases rb
    obtain ⟨g, q⟩ := guard_ok q
    obtain ⟨g1, g2⟩ := Bool.and_eq_true_iff.mp g
    have h1 : 0 < j.natAbs := Nat.le_of_ble_eq_true g1
    have h2 : j.natAbs < 1073741824 := Nat.le_of_ble_eq_true g2
    exact ⟨_, _, rfl, rfl, ⟨by omega, h2⟩, q.ok s (.int _)⟩
  · exact q.elim
def fMod : D → D → Sto → Res D := fun a b S => match a, b with
  | .int i, .int j => guard (Nat.blt 0 j.natAbs) (.ok (.int (i.fmod j)) S)
  | _, _ => .bad
theorem oMod : OpD X C W (binaryOp .Mod) fMod := by
  refine ⟨_, op_modN, fun M S H a b x y Q s ra rb q => ?_⟩
  unfold fMod at q
  split at q
  · rename_i i j
    cases ra; cases rb
    obtain ⟨g, q⟩ := guard_ok q
    have h1 : 0 < j.natAbs := Nat.le_of_ble_eq_true g
    exact ⟨_, _, rfl, rfl, by omega, q.ok s (.int _)⟩
  · exact q.elim
/-! ### order of ints -/
def fOrd (f : Int → Int → Bool) : D → D → Sto → Res D := fun a b S => match a, b with
  | .int i, .int j => .ok (.bl (f i j)) S
  | _, _ => .bad
theorem oOrd {op : Value → Value → Sem Value} {g f : Int → Int → Bool} (h : OpR X op (rI0 fun i j => .bl (g i j))) (e : ∀ i j, f i j = g i j) : OpD X C W op (fOrd f) := by
  refine ⟨_, h, fun M S H a b x y Q s ra rb q => ?_⟩
  unfold fOrd at q
  split at q
  · cases ra; cases rb
    rw [e] at q
    exact ⟨_, _, rfl, rfl, q.ok s (.bl _)⟩
  · exact q.elim
abbrev fLt := fOrd ltB
abbrev fLe := fOrd leB
abbrev fGt := fOrd fun i j => ltB j i
abbrev fGe := fOrd fun i j => leB j i
theorem oLt : OpD X C W (compareOp .Lt) fLt := oOrd op_lt fun i j => ltB_eq i j
theorem oLe : OpD X C W (compareOp .LtE) fLe := oOrd op_le fun i j => leB_eq i j
theorem oGt : OpD X C W (compareOp .Gt) fGt := oOrd op_gt fun i j => ltB_eq j i
theorem oGe : OpD X C W (compareOp .GtE) fGe := oOrd op_ge fun i j => leB_eq j i
/-! ### is None -/
def isNon : D → Bool
  | .non => true
  | _ => false
theorem isNon_eq {M : Wd} {d : D} {v : V} (r : Rep C M d v) : isNon d = decide (v = .non) := by
  cases r <;> simp [isNon]
def fIs : D → D → Sto → Res D := fun a b S => match b with
  | .non => .ok (.bl (isNon a)) S
  | _ => .bad
def fIsnt : D → D → Sto → Res D := fun a b S => match b with
  | .non => .ok (.bl (!isNon a)) S
  | _ => .bad
theorem oIs : OpD X C W (compareOp .Is) fIs := by
  refine ⟨_, op_isN, fun M S H a b x y Q s ra rb q => ?_⟩
  unfold fIs at q
  split at q
  · cases rb
    rw [isNon_eq ra] at q
    exact ⟨rfl, q.ok s (.bl _)⟩
  · exact q.elim
theorem oIsnt : OpD X C W (compareOp .IsNot) fIsnt := by
  refine ⟨_, op_notN, fun M S H a b x y Q s ra rb q => ?_⟩
  unfold fIsnt at q
  split at q
  · cases rb
    rw [isNon_eq ra] at q
    exact ⟨rfl, q.ok s (.bl _)⟩
  · exact q.elim
end
end Pd

namespace Pd
open PySem PySem.Spec L2

/-! ### texts compared sign by sign -/
theorem eqN_iff : ∀ (x y : List Nat), eqN x y = true ↔ x = y
  | [], [] => by simp [eqN]
  | [], _ :: _ => by simp [eqN]
  | _ :: _, [] => by simp [eqN]
  | a :: x, b :: y => by
    unfold eqN
    cases e : Nat.beq a b with
    | true =>
      have h := Nat.eq_of_beq_eq_true e
      subst h
      show eqN x y = true ↔ _
      rw [eqN_iff x y]; simp
    | false =>
      have h := Nat.ne_of_beq_eq_false e
      simp [h]
theorem eqS_iff (x y : Str) : eqS x y = true ↔ x = y := by
  unfold eqS
  rw [eqN_iff]
  constructor
  · intro h
    cases x; cases y
    exact congrArg Str.mk (Array.ext' h)
  · intro h; rw [h]
theorem eqS_eq (x y : Str) : eqS x y = decide (x = y) := bool_dec (eqS_iff x y)
theorem eqS_beq (x y : Str) : (x == y) = eqS x y := by
  cases e : eqS x y with
  | true => rw [(eqS_iff x y).mp e]; simp
  | false => exact beq_eq_false_iff_ne.mpr fun z => by rw [(eqS_iff x y).mpr z] at e; cases e

/-! ### data at any depth -/
def mapO {α β : Type} (f : α → Option β) : List α → Option (List β)
  | [] => some []
  | a :: r => (match f a with
    | some b => (match mapO f r with
      | some s => some (b :: s)
      | none => none)
    | none => none)
def okS (x : Str) : Bool := okN x.cps.toList where
  okN : List Nat → Bool
    | [] => true
    | c :: r => (match Nat.blt c 1114112 with
      | true => okN r
      | false => false)
theorem okN_all : ∀ l : List Nat, okS.okN l = true → l.all (· < 0x110000) = true
  | [], _ => rfl
  | c :: r, h => by
    unfold okS.okN at h
    cases e : Nat.blt c 1114112 with
    | false => rw [e] at h; cases h
    | true =>
      rw [e] at h
      have h1 : c < 1114112 := Nat.le_of_ble_eq_true e
      simp only [List.all_cons, Bool.and_eq_true, decide_eq_true_eq]
      exact ⟨h1, okN_all r h⟩
theorem okS_ok {x : Str} (h : okS x = true) : PyData.strOk x = true := by
  have := okN_all _ h
  unfold PyData.strOk
  rw [← Array.all_toList]
  exact this
def toPy : Nat → Sto → D → Option PyData
  | 0, _, _ => none
  | n + 1, S, d => match d with
    | .non => some .none
    | .bl b => some (.bool b)
    | .int i => some (.int i)
    | .str x => (match okS x with
      | true => some (.str x)
      | false => none)
    | .tup ds => (match mapO (toPy n S) ds with
      | some ps => some (.tuple ps)
      | none => none)
    | .ctp ds => (match mapO (toPy n S) ds with
      | some ps => some (.tuple ps)
      | none => none)
    | d => (match lstV S d with
      | some ds => (match mapO (toPy n S) ds with
        | some ps => some (.list ps)
        | none => none)
      | none => none)
section
variable {C : Cfg} {M : Wd} {S : Sto} {H : Hp}
theorem mapO_dp {K : PySem.W.Frag} {f : D → Option PyData} (ih : ∀ d v p, f d = some p → Rep C M d v → Dp K H v p) : ∀ {ds : List D} {vs : List V} {ps : List PyData}, mapO f ds = some ps → RepL C M ds vs → DpAll K H vs ps
  | [], vs, ps, h, r => by cases h; rw [r.nil_inv]; exact .nil
  | d :: ds, vs, ps, h, r => by
    obtain ⟨v, us, rfl, h1, r1⟩ := r.cons_inv
    unfold mapO at h
    split at h
    · rename_i b e
      split at h
      · rename_i s e2
        cases h
        exact .cons (ih d v b e h1) (mapO_dp ih e2 r1)
      · cases h
    · cases h
theorem toPy_dp (s : Sim C M S H) : ∀ (n : Nat) (d : D) (v : V) (p : PyData), toPy n S d = some p → Rep C M d v → Dp C.K H v p
  | 0, _, _, _, h, _ => by cases h
  | n + 1, d, v, p, h, r => by
    have tail : ∀ q, (match lstV S d with
      | some ds => (match mapO (toPy n S) ds with
        | some ps => some (PyData.list ps)
        | none => none)
      | none => none) = some q → Dp C.K H v q := fun q h => by
      split at h
      · rename_i ds e
        split at h
        · rename_i ps e2
          cases h
          obtain ⟨a, vs, rfl, h1, r1⟩ := lst_of s r e
          exact .lst h1 (mapO_dp (toPy_dp s n) e2 r1)
        · cases h
      · cases h
    unfold toPy at h
    split at h
    · cases h; cases r; exact .non
    · cases h; cases r; exact .bl _
    · cases h; cases r; exact .int _
    · split at h
      · cases h; cases r; exact .str _
      · cases h
    · split at h
      · rename_i ps e2
        cases h
        obtain ⟨a, vs, rfl, h1, r1⟩ := tup_of s r rfl
        exact .tup h1 (mapO_dp (toPy_dp s n) e2 r1)
      · cases h
    · split at h
      · rename_i ps e2
        cases h
        obtain ⟨a, vs, rfl, h1, r1⟩ := tup_of s r rfl
        exact .tup h1 (mapO_dp (toPy_dp s n) e2 r1)
      · cases h
    · exact tail p h
theorem mapO_lay {f : D → Option PyData} (ih : ∀ d p, f d = some p → p.canLay0 = true) : ∀ {ds : List D} {ps : List PyData}, mapO f ds = some ps → PyData.canLayAll0 ps = true
  | [], _, h => by cases h; simp only [PyData.canLayAll0]
  | d :: ds, _, h => by
    unfold mapO at h
    split at h
    · rename_i b e
      split at h
      · rename_i s e2
        cases h
        simp only [PyData.canLayAll0, Bool.and_eq_true]
        exact ⟨ih d b e, mapO_lay ih e2⟩
      · cases h
    · cases h
theorem mapO_depth {f : D → Option PyData} {n : Nat} (ih : ∀ d p, f d = some p → p.depth ≤ n) : ∀ {ds : List D} {ps : List PyData}, mapO f ds = some ps → PyData.depthAll ps ≤ n
  | [], _, h => by cases h; simp only [PyData.depthAll]; omega
  | d :: ds, _, h => by
    unfold mapO at h
    split at h
    · rename_i b e
      split at h
      · rename_i s e2
        cases h
        simp only [PyData.depthAll]
        have h1 := ih d b e
        have h2 := mapO_depth ih e2
        omega
      · cases h
    · cases h
theorem toPy_lay : ∀ (n : Nat) (d : D) (p : PyData), toPy n S d = some p → p.canLay0 = true
  | 0, _, _, h => by cases h
  | n + 1, d, p, h => by
    have ih := toPy_lay n
    unfold toPy at h
    split at h
    · cases h; simp only [PyData.canLay0]
    · cases h; simp only [PyData.canLay0]
    · cases h; simp only [PyData.canLay0]
    · split at h
      · rename_i e; cases h; simp only [PyData.canLay0]; exact okS_ok e
      · cases h
    · split at h
      · rename_i ps e2; cases h; simp only [PyData.canLay0]; exact mapO_lay ih e2
      · cases h
    · split at h
      · rename_i ps e2; cases h; simp only [PyData.canLay0]; exact mapO_lay ih e2
      · cases h
    · split at h
      · split at h
        · rename_i ps e2; cases h; simp only [PyData.canLay0]; exact mapO_lay ih e2
        · cases h
      · cases h
theorem toPy_depth : ∀ (n : Nat) (d : D) (p : PyData), toPy n S d = some p → p.depth ≤ n
  | 0, _, _, h => by cases h
  | n + 1, d, p, h => by
    have ih := toPy_depth n
    unfold toPy at h
    split at h
    · cases h; simp only [PyData.depth]; omega
    · cases h; simp only [PyData.depth]; omega
    · cases h; simp only [PyData.depth]; omega
    · split at h
      · cases h; simp only [PyData.depth]; omega
      · cases h
    · split at h
      · rename_i ps e2; cases h; simp only [PyData.depth]; have := mapO_depth ih e2; omega
      · cases h
    · split at h
      · rename_i ps e2; cases h; simp only [PyData.depth]; have := mapO_depth ih e2; omega
      · cases h
    · split at h
      · split at h
        · rename_i ps e2; cases h; simp only [PyData.depth]; have := mapO_depth ih e2; omega
        · cases h
      · cases h
theorem toPy_shaped {d : D} {p : PyData} (h : toPy 40 S d = some p) : SeqAt.shaped p = true := by
  unfold SeqAt.shaped
  rw [toPy_lay 40 d p h, decide_eq_true (show p.depth ≤ 64 from Nat.le_trans (toPy_depth 40 d p h) (by decide))]
  rfl
end
/-- == of data, by the kernel's own means -/
def eqL (f : PyData → PyData → Bool) : List PyData → List PyData → Bool
  | [], [] => true
  | x :: xs, y :: ys => (match f x y with
    | true => eqL f xs ys
    | false => false)
  | _, _ => false
def i01 : Bool → Int
  | true => 1
  | false => 0
def eqF : Nat → PyData → PyData → Bool
  | 0, _, _ => false
  | n + 1, p, q => match p, q with
    | .none, .none => true
    | .bool a, .bool b => (match a, b with
      | true, true => true
      | false, false => true
      | _, _ => false)
    | .bool a, .int j => eqB (i01 a) j
    | .int i, .bool b => eqB i (i01 b)
    | .int i, .int j => eqB i j
    | .str x, .str y => eqS x y
    | .list xs, .list ys => eqL (eqF n) xs ys
    | .tuple xs, .tuple ys => eqL (eqF n) xs ys
    | _, _ => false
theorem eqB_beq (a b : Int) : (a == b) = eqB a b := by
  rw [eqB_eq, Bool.beq_eq_decide_eq]
theorem eqL_eq {f : PyData → PyData → Bool} {n : Nat} (ih : ∀ p q, p.depth < n → p.canLay0 = true → f p q = PyData.eqv p q) : ∀ (xs ys : List PyData), PyData.depthAll xs < n → PyData.canLayAll0 xs = true → eqL f xs ys = PyData.eqvAll xs ys
  | [], [], _, _ => by simp [eqL, PyData.eqvAll]
  | [], _ :: _, _, _ => by simp [eqL, PyData.eqvAll]
  | _ :: _, [], _, _ => by simp [eqL, PyData.eqvAll]
  | x :: xs, y :: ys, hd, hl => by
    simp only [PyData.depthAll] at hd
    simp only [PyData.canLayAll0, Bool.and_eq_true] at hl
    have h1 := ih x y (by omega) hl.1
    have h2 := eqL_eq ih xs ys (by omega) hl.2
    unfold eqL
    simp only [PyData.eqvAll]
    rw [h1, h2]
    cases PyData.eqv x y <;> rfl
theorem eqF_eq : ∀ (n : Nat) (p q : PyData), p.depth < n → p.canLay0 = true → eqF n p q = PyData.eqv p q
  | 0, _, _, h, _ => absurd h (Nat.not_lt_zero _)
  | n + 1, p, q, hd, hl => by
    have ih := eqF_eq n
    cases p with
    | dict _ => simp only [PyData.canLay0] at hl; cases hl
    | none => cases q <;> simp [eqF, PyData.eqv]
    | bool a => cases q with
      | bool b => cases a <;> cases b <;> simp [eqF, PyData.eqv]
      | int j => simp only [eqF, PyData.eqv]; rw [eqB_beq]; cases a <;> rfl
      | _ => simp [eqF, PyData.eqv]
    | int i => cases q with
      | bool b => simp only [eqF, PyData.eqv]; rw [eqB_beq]; cases b <;> rfl
      | int j => simp only [eqF, PyData.eqv]; rw [eqB_beq]
      | _ => simp [eqF, PyData.eqv]
    | str x => cases q with
      | str y => simp only [eqF, PyData.eqv]; rw [eqS_beq]
      | _ => simp [eqF, PyData.eqv]
    | list xs => cases q with
      | list ys =>
        simp only [PyData.depth] at hd
        simp only [PyData.canLay0] at hl
        simp only [eqF, PyData.eqv]
        exact eqL_eq ih xs ys (by omega) hl
      | _ => simp [eqF, PyData.eqv]
    | tuple xs => cases q with
      | tuple ys =>
        simp only [PyData.depth] at hd
        simp only [PyData.canLay0] at hl
        simp only [eqF, PyData.eqv]
        exact eqL_eq ih xs ys (by omega) hl
      | _ => simp [eqF, PyData.eqv]
def eqD (S : Sto) (a b : D) : Option Bool := match toPy 40 S a, toPy 40 S b with
  | some p, some q => some (eqF 41 p q)
  | _, _ => none
def fEq : D → D → Sto → Res D := fun a b S => match eqD S a b with
  | some e => .ok (.bl e) S
  | none => .bad
def fNe : D → D → Sto → Res D := fun a b S => match eqD S a b with
  | some e => .ok (.bl (!e)) S
  | none => .bad
section
variable {X : Cx} {C : Cfg} {W : XK}
theorem eqD_of {M : Wd} {S : Sto} {H : Hp} {a b : D} {x y : V} {e : Bool} (s : Sim C M S H) (ra : Rep C M a x) (rb : Rep C M b y) (h : eqD S a b = some e) :
    ∃ p q, Dp C.K H x p ∧ Dp C.K H y q ∧ SeqAt.shaped p = true ∧ SeqAt.shaped q = true ∧ PyData.eqv p q = e := by
  unfold eqD at h
  split at h
  · rename_i p q e1 e2
    cases h
    exact ⟨p, q, toPy_dp s 40 a x p e1 ra, toPy_dp s 40 b y q e2 rb, toPy_shaped e1, toPy_shaped e2, (eqF_eq 41 p q (Nat.lt_of_le_of_lt (toPy_depth 40 a p e1) (by decide)) (toPy_lay 40 a p e1)).symm⟩
  · cases h
theorem oEq (hK : X.K = C.K) (hu : X.A.units + 64 < cLine) : OpD X C W (compareOp .Eq) fEq := by
  refine ⟨_, op_eqD hu, fun M S H a b x y Q s ra rb q => ?_⟩
  unfold fEq at q
  split at q
  · rename_i e he
    obtain ⟨p, r, h1, h2, h3, h4, h5⟩ := eqD_of s ra rb he
    exact ⟨p, r, hK ▸ h1, hK ▸ h2, h3, h4, by rw [h5]; exact q.ok s (.bl _)⟩
  · exact q.elim
theorem oNe (hK : X.K = C.K) (hu : X.A.units + 64 < cLine) : OpD X C W (compareOp .NotEq) fNe := by
  refine ⟨_, op_neD hu, fun M S H a b x y Q s ra rb q => ?_⟩
  unfold fNe at q
  split at q
  · rename_i e he
    obtain ⟨p, r, h1, h2, h3, h4, h5⟩ := eqD_of s ra rb he
    exact ⟨p, r, hK ▸ h1, hK ▸ h2, h3, h4, by rw [h5]; exact q.ok s (.bl _)⟩
  · exact q.elim

/-! ### in, not in -/
def flatD : D → Bool
  | .non => true
  | .bl _ => true
  | .int _ => true
  | .str _ => true
  | _ => false
def eqFl : D → D → Bool
  | .non, .non => true
  | .bl a, .bl b => (match a, b with
    | true, true => true
    | false, false => true
    | _, _ => false)
  | .bl a, .int j => eqB (i01 a) j
  | .int i, .bl b => eqB i (i01 b)
  | .int i, .int j => eqB i j
  | .str x, .str y => eqS x y
  | _, _ => false
def inD (x : D) : List D → Option Bool
  | [] => some false
  | y :: r => (match flatD y with
    | true => (match inD x r with
      | some b => (match eqFl y x with
        | true => some true
        | false => some b)
      | none => none)
    | false => none)
theorem flat_of {M : Wd} {d : D} {v : V} (r : Rep C M d v) (h : flatD d = true) : flatV v = true := by
  cases r <;> first | rfl | cases h
theorem eqFl_of {M : Wd} {d e : D} {v u : V} (r : Rep C M d v) (q : Rep C M e u) (h : flatD d = true) (h' : flatD e = true) : eqFl d e = eqV v u := by
  cases r <;> first | cases h | skip
  all_goals (cases q <;> first | cases h' | skip)
  all_goals first | rfl | skip
  · rename_i p q; cases p <;> cases q <;> rfl
  · rename_i a b; show eqB (i01 a) b = _; rw [← eqB_beq]; cases a <;> rfl
  · rename_i a b; show eqB a (i01 b) = _; rw [← eqB_beq]; cases b <;> rfl
  · rename_i a b; show eqB a b = _; rw [← eqB_beq]; rfl
  · rename_i a b; show eqS a b = _; rw [← eqS_beq]; rfl
theorem inD_of {M : Wd} {x : D} {v : V} (r : Rep C M x v) (hx : flatD x = true) : ∀ {ds : List D} {vs : List V} {b : Bool}, RepL C M ds vs → inD x ds = some b → vs.all flatV = true ∧ inV v vs = b
  | [], vs, b, q, h => by cases h; rw [q.nil_inv]; exact ⟨rfl, rfl⟩
  | d :: ds, vs, b, q, h => by
    obtain ⟨u, us, rfl, h1, q1⟩ := q.cons_inv
    unfold inD at h
    cases e : flatD d with
    | false => rw [e] at h; cases h
    | true =>
      rw [e] at h
      cases e2 : inD x ds with
      | none => rw [e2] at h; cases h
      | some c =>
        rw [e2] at h
        obtain ⟨i1, i2⟩ := inD_of r hx q1 e2
        refine ⟨by rw [List.all_cons, flat_of h1 e, i1]; rfl, ?_⟩
        show (eqV u v || inV v us) = b
        rw [← eqFl_of h1 r e hx, i2]
        cases e3 : eqFl d x with
        | true => rw [e3] at h; cases h; rfl
        | false => rw [e3] at h; cases h; rfl
def seqV (S : Sto) : D → Option (List D)
  | .tup ds => some ds
  | .ctp ds => some ds
  | d => lstV S d
theorem seq_of {M : Wd} {S : Sto} {H : Hp} {d : D} {v : V} {ds : List D} (s : Sim C M S H) (r : Rep C M d v) (h : seqV S d = some ds) : ∃ a vs, v = .ref a ∧ (SqL C.K H a vs ∨ SqT C.K H a vs) ∧ RepL C M ds vs := by
  unfold seqV at h
  split at h
  · cases h
    obtain ⟨a, vs, e, h1, r1⟩ := tup_of s r rfl
    exact ⟨a, vs, e, .inr h1, r1⟩
  · cases h
    obtain ⟨a, vs, e, h1, r1⟩ := tup_of s r rfl
    exact ⟨a, vs, e, .inr h1, r1⟩
  · obtain ⟨a, vs, e, h1, r1⟩ := lst_of s r h
    exact ⟨a, vs, e, .inl h1, r1⟩
/-- is a piece of a text: one sign -/
def memN (c : Nat) : List Nat → Bool
  | [] => false
  | x :: r => (match Nat.beq c x with
    | true => true
    | false => memN c r)
theorem memN_iff (c : Nat) : ∀ l : List Nat, memN c l = true ↔ c ∈ l
  | [] => by simp [memN]
  | x :: r => by
    unfold memN
    cases e : Nat.beq c x with
    | true => have := Nat.eq_of_beq_eq_true e; subst this; simp
    | false => have := Nat.ne_of_beq_eq_false e; simp [memN_iff c r, this]
def keyOf : D → Option Key
  | .int i => some (.inl i)
  | .str x => some (.inr x)
  | _ => none
def eqK : Key → Key → Bool
  | .inl i, .inl j => eqB i j
  | .inr x, .inr y => eqS x y
  | _, _ => false
theorem eqK_iff (a b : Key) : eqK a b = true ↔ a = b := by
  cases a <;> cases b
  · rename_i i j; show eqB i j = true ↔ _; rw [eqB_eq, decide_eq_true_eq]; simp
  · simp [eqK]
  · simp [eqK]
  · rename_i i j; show eqS i j = true ↔ _; rw [eqS_iff]; simp
def lookK : List (Key × D) → Key → Option D
  | [], _ => none
  | (k, d) :: r, j => (match eqK k j with
    | true => some d
    | false => lookK r j)
theorem keyOf_of {M : Wd} {d : D} {v : V} {k : Key} (r : Rep C M d v) (h : keyOf d = some k) : v = kV k := by
  cases r <;> first | cases h | skip
  · rfl
  · rfl
theorem lookK_of {M : Wd} : ∀ {kds : List (Key × D)} {kvs : List (Key × V)} (k : Key), RepK C M kds kvs → (match lookK kds k with | some d => ∃ v, valV kvs k = some v ∧ Rep C M d v | none => valV kvs k = none)
  | [], kvs, k, r => by
    have : kvs = [] := by
      have := r.1
      cases kvs with
      | nil => rfl
      | cons _ _ => simp at this
    subst this
    rfl
  | (k0, d) :: rs, kvs, k, r => by
    cases kvs with
    | nil => have := r.1; simp at this
    | cons p ps =>
      obtain ⟨k1, v⟩ := p
      have e1 : k0 = k1 ∧ rs.map (·.1) = ps.map (·.1) := by simpa using r.1
      obtain ⟨rfl, e2⟩ := e1
      have r1 : Rep C M d v := r.2 0 k0 d k0 v rfl rfl
      have rr : RepK C M rs ps := ⟨e2, fun i a b c e h1 h2 => r.2 (i + 1) a b c e (by simpa using h1) (by simpa using h2)⟩
      unfold lookK
      cases e : eqK k0 k with
      | true =>
        have := (eqK_iff _ _).mp e
        subst this
        exact ⟨v, valV_pos rfl, r1⟩
      | false =>
        have hne : ¬ k0 = k := fun z => by rw [(eqK_iff _ _).mpr z] at e; cases e
        have ih := lookK_of k rr
        show (match lookK rs k with | some d => _ | none => _)
        rw [valV_neg (show ¬ ((k0, v) : Key × V).1 = k from hne)]
        exact ih
def fIn (neg : Bool) : D → D → Sto → Res D := fun a b S => match dctV S b with
  | some kds => (match keyOf a with
    | some k => .ok (.bl (match lookK kds k with | some _ => !neg | none => neg)) S
    | none => .bad)
  | none => (match a, b with
    | .str ⟨⟨[c]⟩⟩, .str z => .ok (.bl (match memN c z.cps.toList with | true => !neg | false => neg)) S
    | a, b => (match seqV S b with
      | some ds => guard (flatD a) (match inD a ds with
        | some e => .ok (.bl (match e with | true => !neg | false => neg)) S
        | none => .bad)
      | none => .bad))
end
end Pd

namespace Pd
open PySem PySem.Spec L2

/-! ### in, not in -/
section
variable {X : Cx} {C : Cfg} {W : XK}
def rInDk (neg : Bool) : R2 := fun x y H Q => ∃ a o, y = .ref a ∧ DGet H a x o ∧ Q (.bl (if neg then !o.isSome else o.isSome)) H
theorem op_inDk (hu : X.A.units + 1 < cLine) : OpR X (compareOp .In) (rInDk false) := by
  intro pins s σ H x y v u Q I rx ry h; obtain ⟨a, o, rfl, g, q⟩ := h
  cases ry
  exact d_in hu I g rx fun s' I' => ⟨.bl _, H, I', rfl, q⟩
theorem op_notInDk (hu : X.A.units + 1 < cLine) : OpR X (compareOp .NotIn) (rInDk true) := by
  intro pins s σ H x y v u Q I rx ry h; obtain ⟨a, o, rfl, g, q⟩ := h
  cases ry
  exact d_notIn hu I g rx fun s' I' => ⟨.bl _, H, I', rfl, q⟩
def rInC (neg : Bool) : R2 := fun x y H Q => ∃ (c : Nat) (z : Str), x = .str ⟨#[c]⟩ ∧ y = .str z ∧ Q (.bl (if neg then !decide (c ∈ z.cps.toList) else decide (c ∈ z.cps.toList))) H
theorem in_of {M : Wd} {S : Sto} {H : Hp} {a b : D} {x y : V} {Q : VK} {K : PySem.W.Frag} (hK : K = C.K) (neg : Bool) (s : Sim C M S H) (ra : Rep C M a x) (rb : Rep C M b y) (q : GoodE C M (fIn neg a b S) Q W) :
    rInDk neg x y H Q ∨ rInC neg x y H Q ∨ rIn K neg x y H Q := by
  subst hK
  unfold fIn at q
  split at q
  · rename_i kds e
    split at q
    · rename_i k ek
      obtain ⟨p, kvs, rfl, h1, r1⟩ := dct_of s rb e
      have hx := keyOf_of ra ek
      subst hx
      have l := lookK_of k r1
      refine .inl ⟨p, valV kvs k, rfl, .inl ⟨kvs, k, h1, rfl, rfl⟩, ?_⟩
      cases e2 : lookK kds k with
      | some d =>
        rw [e2] at l q
        obtain ⟨v, hv, _⟩ := l
        rw [hv]
        have q' := GoodE.ok (v := .bl (!neg)) q s (.bl _)
        cases neg <;> exact q'
      | none =>
        rw [e2] at l q
        have l : valV kvs k = none := l
        rw [l]
        have q' := GoodE.ok (v := .bl neg) q s (.bl _)
        cases neg <;> exact q'
    · exact q.elim
  · split at q
    · rename_i c z _
      cases ra; cases rb
      refine .inr (.inl ⟨c, z, rfl, rfl, ?_⟩)
      cases e : memN c z.cps.toList with
      | true =>
        rw [e] at q
        rw [decide_eq_true ((memN_iff _ _).mp e)]
        have q' := GoodE.ok (v := .bl (!neg)) q s (.bl _)
        cases neg <;> exact q'
      | false =>
        rw [e] at q
        rw [decide_eq_false fun z => by rw [(memN_iff _ _).mpr z] at e; cases e]
        have q' := GoodE.ok (v := .bl neg) q s (.bl _)
        cases neg <;> exact q'
    · split at q
      · rename_i ds e
        obtain ⟨g, q⟩ := guard_ok q
        split at q
        · rename_i e2 he
          obtain ⟨p, vs, rfl, h1, r1⟩ := seq_of s rb e
          obtain ⟨i1, i2⟩ := inD_of ra g r1 he
          refine .inr (.inr ⟨p, vs, rfl, h1, flat_of ra g, i1, ?_⟩)
          rw [i2]
          cases e2 with
          | true => have q' := GoodE.ok (v := .bl (!neg)) q s (.bl _); cases neg <;> exact q'
          | false => have q' := GoodE.ok (v := .bl neg) q s (.bl _); cases neg <;> exact q'
        · exact q.elim
      · exact q.elim


/-! ### o[i] -/
def rIxD : R2 := fun x y H Q => ∃ a v, x = .ref a ∧ DGet H a y (some v) ∧ Q v H
theorem ix_dict (hu : X.A.units + 1 < cLine) : IxR X rIxD := fun ev es pn s0 σ0 H0 x y u1 u2 R I rx ry q hsub => by
  obtain ⟨a, w, rfl, g, q⟩ := q
  cases rx
  exact PyProof.Rows.tail_any (dict_typeIs I g) PySem.F.slot_dict_getitem.lookup (d_getItem hu I g ry fun w' s' I' r' => ⟨_, H0, I', r', q⟩) hsub
def atD (ds : List D) (i : Int) : Option D := atI ds i
theorem atI_of {M : Wd} {ds : List D} {vs : List V} {i : Int} {d : D} (r : RepL C M ds vs) (h : atI ds i = some d) : ∃ v, atI vs i = some v ∧ Rep C M d v := by
  unfold atI at h ⊢
  rw [← r.1]
  cases e : ixN ds.length i with
  | none => (rw [e] at h; cases h)
  | some j =>
    rw [e] at h
    exact r.get h
/-- the place of an index -/
def placeD (n : Nat) : Int → Option Nat
  | .ofNat k => (match Nat.blt k n with
    | true => some k
    | false => none)
  | .negSucc k => (match Nat.blt k n with
    | true => some (n - 1 - k)
    | false => none)
theorem placeD_eq (n : Nat) (i : Int) : placeD n i = ixN n i := by
  unfold ixN
  cases i with
  | ofNat k =>
    show (match Nat.blt k n with | true => some k | false => none) = _
    cases e : Nat.blt k n with
    | true =>
      have h : k < n := Nat.le_of_ble_eq_true e
      have h0 : (0 : Int) ≤ Int.ofNat k := Int.natCast_nonneg k
      have h1 : Int.ofNat k < (n : Int) := by show ((k : Nat) : Int) < n; omega
      rw [if_pos h0, if_pos h1] <;> rfl
    | false =>
      have h : ¬ k < n := fun z => by rw [show Nat.blt k n = true from Nat.ble_eq_true_of_le z] at e; cases e
      have h0 : (0 : Int) ≤ Int.ofNat k := Int.natCast_nonneg k
      have h1 : ¬ Int.ofNat k < (n : Int) := by show ¬ ((k : Nat) : Int) < n; omega
      rw [if_pos h0, if_neg h1]
  | negSucc k =>
    have h0 : ¬ (0 : Int) ≤ Int.negSucc k := by omega
    rw [if_neg h0]
    show (match Nat.blt k n with | true => some (n - 1 - k) | false => none) = _
    cases e : Nat.blt k n with
    | true =>
      have h : k < n := Nat.le_of_ble_eq_true e
      have h1 : -(n : Int) ≤ Int.negSucc k := by omega
      rw [if_pos h1]
      have : (Int.negSucc k + (n : Int)).toNat = n - 1 - k := by omega
      rw [this]
    | false =>
      have h : ¬ k < n := fun z => by rw [show Nat.blt k n = true from Nat.ble_eq_true_of_le z] at e; cases e
      have h1 : ¬ -(n : Int) ≤ Int.negSucc k := by omega
      rw [if_neg h1]
def nthD {α : Type} : List α → Nat → Option α
  | [], _ => none
  | a :: r, n => (match n with
    | 0 => some a
    | k + 1 => nthD r k)
theorem nthD_eq {α : Type} : ∀ (l : List α) (n : Nat), nthD l n = l[n]?
  | [], _ => by simp [nthD]
  | a :: r, 0 => by simp [nthD]
  | a :: r, k + 1 => by simp [nthD, nthD_eq r k]
def itemD {α : Type} (ds : List α) (i : Int) : Option α := match placeD ds.length i with
  | some j => nthD ds j
  | none => none
theorem itemD_eq {α : Type} (ds : List α) (i : Int) : itemD ds i = atI ds i := by
  unfold itemD atI
  rw [placeD_eq]
  cases ixN ds.length i with
  | none => rfl
  | some j => exact nthD_eq ds j
/-! ### keys that are tuples -/
def keyT : D → Option (List Key)
  | .tup ds => mapO keyOf ds
  | _ => none
def eqKs : List Key → List Key → Bool
  | [], [] => true
  | a :: r, b :: q => (match eqK a b with
    | true => eqKs r q
    | false => false)
  | _, _ => false
theorem eqKs_iff : ∀ a b : List Key, eqKs a b = true ↔ a = b
  | [], [] => Iff.intro (fun _ => rfl) fun _ => rfl
  | [], _ :: _ => ⟨fun h => (by cases h), fun h => (by cases h)⟩
  | _ :: _, [] => ⟨fun h => (by cases h), fun h => (by cases h)⟩
  | a :: r, b :: q => by
    unfold eqKs
    cases e : eqK a b with
    | true =>
      have e1 := (eqK_iff a b).mp e
      subst e1
      show eqKs r q = true ↔ _
      rw [eqKs_iff r q]
      exact ⟨fun h => by rw [h], fun h => by cases h; rfl⟩
    | false =>
      refine ⟨fun h => (by cases h), fun h => ?_⟩
      cases h
      rw [(eqK_iff a a).mpr rfl] at e
      cases e
def lookT : List (List Key × D) → List Key → Option D
  | [], _ => none
  | (k0, d) :: r, k => (match eqKs k0 k with
    | true => some d
    | false => lookT r k)
theorem keysOf_of {M : Wd} : ∀ {ds : List D} {vs : List V} {ks : List Key}, RepL C M ds vs → mapO keyOf ds = some ks → vs = ks.map kV
  | [], vs, ks, r, h => by cases h; exact r.nil_inv
  | d :: ds, vs, ks, r, h => by
    obtain ⟨v, us, rfl, h1, r1⟩ := r.cons_inv
    unfold mapO at h
    split at h
    · rename_i b e
      split at h
      · rename_i s e2
        cases h
        rw [keyOf_of h1 e, keysOf_of r1 e2]
        rfl
      · cases h
    · cases h
theorem keyT_of {M : Wd} {S : Sto} {H : Hp} {d : D} {v : V} {k : List Key} (s : Sim C M S H) (r : Rep C M d v) (h : keyT d = some k) : ∃ b, v = .ref b ∧ H b = some (.tup (k.map kV)) := by
  cases r with
  | tup hq hl hr =>
    have e := keysOf_of (ks := k) ⟨hl, hr⟩ h
    subst e
    exact ⟨_, rfl, s.tupX hq⟩
  | _ => cases h
theorem RepT.cons_inv {M : Wd} {k0 : List Key} {d : D} {rs : List (List Key × D)} {kvs : List (List Key × V)} (r : RepT C M ((k0, d) :: rs) kvs) : ∃ v ps, kvs = (k0, v) :: ps ∧ Rep C M d v ∧ RepT C M rs ps := by
  cases kvs with
  | nil => have := r.1; simp at this
  | cons p ps =>
    obtain ⟨k1, v⟩ := p
    have e1 : k0 = k1 ∧ rs.map (·.1) = ps.map (·.1) := by simpa using r.1
    obtain ⟨rfl, e2⟩ := e1
    exact ⟨v, ps, rfl, r.2 0 k0 d k0 v rfl rfl, e2, fun i a b c e h1 h2 => r.2 (i + 1) a b c e (by simpa using h1) (by simpa using h2)⟩
theorem RepT.nil_inv {M : Wd} {kvs : List (List Key × V)} (r : RepT C M [] kvs) : kvs = [] := by
  cases kvs with
  | nil => rfl
  | cons p ps => have := r.1; simp at this
theorem lookT_of {M : Wd} : ∀ {kds : List (List Key × D)} {kvs : List (List Key × V)} (k : List Key), RepT C M kds kvs → (match lookT kds k with | some d => ∃ v, valV kvs k = some v ∧ Rep C M d v | none => valV kvs k = none)
  | [], kvs, k, r => by rw [r.nil_inv]; rfl
  | (k0, d) :: rs, kvs, k, r => by
    obtain ⟨v, ps, rfl, r1, rr⟩ := r.cons_inv
    unfold lookT
    cases e : eqKs k0 k with
    | true =>
      have := (eqKs_iff _ _).mp e
      subst this
      exact ⟨v, valV_pos rfl, r1⟩
    | false =>
      have hne : ¬ k0 = k := fun z => by rw [(eqKs_iff _ _).mpr z] at e; cases e
      have ih := lookT_of k rr
      show (match lookT rs k with | some d => _ | none => _)
      rw [valV_neg (show ¬ ((k0, v) : List Key × V).1 = k from hne)]
      exact ih
/-! ### dicts of the module -/
def kdV : D → Option (List (Str × D))
  | .kdc kds => some kds
  | _ => none
def lookS : List (Str × D) → Str → Option D
  | [], _ => none
  | (x, d) :: r, z => (match eqS x z with
    | true => some d
    | false => lookS r z)
theorem lookS_at : ∀ {kds : List (Str × D)} {z : Str} {d : D}, lookS kds z = some d → ∃ i : Nat, kds[i]? = some (z, d)
  | [], _, _, h => by cases h
  | (x, d0) :: r, z, d, h => by
    unfold lookS at h
    split at h
    · rename_i e
      cases h
      have := (eqS_iff _ _).mp e
      subst this
      exact ⟨0, rfl⟩
    · obtain ⟨i, hi⟩ := lookS_at h
      exact ⟨i + 1, hi⟩
theorem lookS_none : ∀ {kds : List (Str × D)} {z : Str}, lookS kds z = none → ∀ p ∈ kds, p.1 ≠ z
  | [], _, _, p, hp => by cases hp
  | (x, d0) :: r, z, h, p, hp => by
    unfold lookS at h
    split at h
    · cases h
    · rename_i e
      rcases List.mem_cons.mp hp with rfl | there
      · exact fun q => by rw [(eqS_iff _ _).mpr q] at e; cases e
      · exact lookS_none h p there
theorem kd_of {C : Cfg} {M : Wd} {a : D} {x : V} {kds : List (Str × D)} (ra : Rep C M a x) (h : kdV a = some kds) : ∃ p, x = .ref p ∧ (∃ es n, KDict C.K C.w p es n) ∧ (∀ z d, lookS kds z = some d → ∃ u v, PySem.W.nsIn C.K p z = some (some u) ∧ RelV v u ∧ Rep C M d v) ∧
    ∀ z, lookS kds z = none → PySem.W.nsIn C.K p z = some none := by
  cases ra with
  | kdc hd hl hk hn hr =>
    cases h
    refine ⟨_, rfl, hd, fun z d e => ?_, fun z e => hn z (lookS_none e)⟩
    obtain ⟨i, hi⟩ := lookS_at e
    have hlt := (List.getElem?_eq_some_iff.mp hi).1
    rw [hl] at hlt
    have hv := List.getElem?_eq_getElem hlt
    obtain ⟨u, h1, h2⟩ := hk i z d _ hi hv
    exact ⟨u, _, h1, h2, hr i z d _ hi hv⟩
  | _ => cases h
def fInK (neg : Bool) : D → D → Sto → Res D := fun a b S => match kdV b with
  | some kds => (match a with
    | .str z => (match lookS kds z with
      | some _ => .ok (.bl (!neg)) S
      | none => .ok (.bl neg) S)
    | _ => .bad)
  | none => fIn neg a b S
def rInKd (K : PySem.W.Frag) (w : World) (neg : Bool) : R2 := fun x y H Q => ∃ (d : Addr) (z : Str) (r : Option Value), x = .str z ∧ y = .ref d ∧ (∃ es n, KDict K w d es n) ∧ PySem.W.nsIn K d z = some r ∧ Q (.bl (if neg then !r.isSome else r.isSome)) H
theorem op_inKd : OpR X (compareOp .In) (rInKd X.K X.w false) := by
  intro pins s σ H x y v u Q I rx ry h; obtain ⟨d, z, r, rfl, rfl, ⟨es, n, kd⟩, e, q⟩ := h
  exact op_in_kd kd pins s σ H _ _ v u Q I rx ry ⟨z, r, rfl, rfl, e, q⟩
theorem op_notInKd : OpR X (compareOp .NotIn) (rInKd X.K X.w true) := by
  intro pins s σ H x y v u Q I rx ry h; obtain ⟨d, z, r, rfl, rfl, ⟨es, n, kd⟩, e, q⟩ := h
  exact op_notIn_kd kd pins s σ H _ _ v u Q I rx ry ⟨z, r, rfl, rfl, e, q⟩
theorem inK_of {M : Wd} {S : Sto} {H : Hp} {a b : D} {x y : V} {Q : VK} {K : PySem.W.Frag} {w : World} (hK : K = C.K) (hw : w = C.w) (neg : Bool) (s : Sim C M S H) (ra : Rep C M a x) (rb : Rep C M b y) (q : GoodE C M (fInK neg a b S) Q W) :
    rInKd K w neg x y H Q ∨ rInDk neg x y H Q ∨ rInC neg x y H Q ∨ rIn K neg x y H Q := by
  unfold fInK at q
  split at q
  · rename_i kds e
    subst hK hw
    split at q
    · rename_i z
      obtain ⟨p, rfl, kd, l1, l2⟩ := kd_of rb e
      cases ra
      split at q
      · rename_i d ed
        obtain ⟨u, v, h1, _⟩ := l1 z d ed
        exact .inl ⟨p, z, _, rfl, rfl, kd, h1, by have q' := GoodE.ok (v := .bl (!neg)) q s (.bl _); cases neg <;> exact q'⟩
      · rename_i ed
        exact .inl ⟨p, z, _, rfl, rfl, kd, l2 z ed, by have q' := GoodE.ok (v := .bl neg) q s (.bl _); cases neg <;> exact q'⟩
    · exact q.elim
  · exact .inr (in_of hK neg s ra rb q)
theorem oIn (hK : X.K = C.K) (hw : X.w = C.w) (hu : X.A.units + 1 < cLine) : OpD X C W (compareOp .In) (fInK false) :=
  ⟨_, op_inKd.or ((op_inDk hu).or (OpR.or (r := rInC false) op_in_sign op_in_seq)), fun M S H a b x y Q s ra rb q => inK_of hK hw false s ra rb q⟩
theorem oNotIn (hK : X.K = C.K) (hw : X.w = C.w) (hu : X.A.units + 1 < cLine) : OpD X C W (compareOp .NotIn) (fInK true) :=
  ⟨_, op_notInKd.or ((op_notInDk hu).or (OpR.or (r := rInC true) op_notIn_sign op_notIn_seq)), fun M S H a b x y Q s ra rb q => inK_of hK hw true s ra rb q⟩
def fIx0 : D → D → Sto → Res D := fun a b S => match dttV S a with
  | some kds => (match keyT b with
    | some k => (match lookT kds k with
      | some d => .ok d S
      | none => .bad)
    | none => .bad)
  | none => (match dctV S a with
    | some kds => (match keyOf b with
      | some k => (match lookK kds k with
        | some d => .ok d S
        | none => .bad)
      | none => .bad)
    | none => (match b with
    | .int i => (match a with
      | .str z => guard (lineOk z.length) (match itemD z.cps.toList i with
        | some c => .ok (.str ⟨#[c]⟩) S
        | none => .bad)
      | a => (match seqV S a with
        | some ds => (match itemD ds i with
          | some d => .ok d S
          | none => .bad)
        | none => .bad))
    | _ => .bad))
def fIx : D → D → Sto → Res D := fun a b S => match kdV a with
  | some kds => (match b with
    | .str z => (match lookS kds z with
      | some d => .ok d S
      | none => .bad)
    | _ => .bad)
  | none => fIx0 a b S
theorem xix {fa fb : DE} {a b : Expr} {pos : Pos} (hK : X.K = C.K) (hw : X.w = C.w) (hu : X.A.units + 1 < cLine) (ha : PE X a (tE C W fa)) (hb : PE X b (tE C W fb)) (hs : PlainIx b) : PE X (.Subscript a b pos) (tE C W (d2 fIx fa fb)) := by
  refine (pe_ix (ix_kdict.or ((ix_dict hu).or ix_seq)) ha hb hs).by fun σ H Q ⟨M, Γ, S, g, s, h⟩ => run2 g s h fun M' a b S' x y H' l s' ra rb q => ?_
  rw [hK, hw]
  unfold fIx at q
  split at q
  · rename_i kds e
    split at q
    · rename_i z
      split at q
      · rename_i d ed
        obtain ⟨p, rfl, ⟨es, n, kd⟩, l, _⟩ := kd_of ra e
        obtain ⟨u, v, h1, h2, h3⟩ := l z d ed
        cases rb
        exact .inl ⟨p, z, v, rfl, rfl, ⟨es, n, u, kd.at_, kd.lit, h1, h2⟩, q.ok s' h3⟩
      · exact q.elim
    · exact q.elim
  refine .inr ?_
  unfold fIx0 at q
  split at q
  · rename_i kds e
    split at q
    · rename_i k ek
      split at q
      · rename_i d ed
        obtain ⟨p, kvs, rfl, h1, r1⟩ := dtt_of s' ra e
        obtain ⟨b', rfl, hb'⟩ := keyT_of s' rb ek
        have l := lookT_of k r1
        rw [ed] at l
        obtain ⟨v, hv, rv⟩ := l
        exact .inl ⟨p, v, rfl, .inr ⟨kvs, k, b', h1, rfl, hb', hv.symm⟩, q.ok s' rv⟩
      · exact q.elim
    · exact q.elim
  split at q
  · rename_i kds e
    split at q
    · rename_i k ek
      split at q
      · rename_i d ed
        obtain ⟨p, kvs, rfl, h1, r1⟩ := dct_of s' ra e
        have hx := keyOf_of rb ek
        subst hx
        have l := lookK_of k r1
        rw [ed] at l
        obtain ⟨v, hv, rv⟩ := l
        exact .inl ⟨p, v, rfl, .inl ⟨kvs, k, h1, rfl, hv.symm⟩, q.ok s' rv⟩
      · exact q.elim
    · exact q.elim
  · split at q
    · rename_i i
      split at q
      · rename_i z _ _ _
        obtain ⟨g1, q⟩ := guard_ok q
        split at q
        · rename_i c ec
          cases ra; cases rb
          rw [itemD_eq] at ec
          exact .inr (.inr (.inr ⟨z, i, c, rfl, rfl, lineOk_ok g1, ec, q.ok s' (.str _)⟩))
        · exact q.elim
      · split at q
        · rename_i ds e
          split at q
          · rename_i d ed
            cases rb
            rw [itemD_eq] at ed
            obtain ⟨p, vs, rfl, h1, r1⟩ := seq_of s' ra e
            obtain ⟨v, hv, rv⟩ := atI_of r1 ed
            rcases h1 with h1 | h1
            · exact .inr (.inl ⟨p, vs, i, v, rfl, rfl, h1, hv, q.ok s' rv⟩)
            · exact .inr (.inr (.inl ⟨p, vs, i, v, rfl, rfl, h1, hv, q.ok s' rv⟩))
          · exact q.elim
        · exact q.elim
    · exact q.elim

/-! ### truth -/
def truR (K : PySem.W.Frag) : V → Hp → (Bool → Hp → Prop) → Prop := fun x H Q => (∃ k, TruV K x H k ∧ Q k H) ∨ ∃ a kvs, x = .ref a ∧ Rd H a (.dK kvs) ∧ Q (!kvs.isEmpty) H
theorem tru_okD : TruR X (truR X.K) := by
  intro pins s σ H x v Q I r h
  rcases h with h | ⟨a, kvs, rfl, e, q⟩
  · exact tru_ok pins s σ H x v Q I r h
  · cases r
    exact d_truth I e fun s' I' => ⟨H, I', q⟩
def emptyL {α : Type} : List α → Bool
  | [] => true
  | _ :: _ => false
theorem emptyL_eq {α : Type} (l : List α) : emptyL l = l.isEmpty := by cases l <;> rfl
def truD (S : Sto) : D → Option Bool
  | .non => some false
  | .bl b => some b
  | .int i => some (!eqB i 0)
  | .str x => (match lineOk x.length with
    | true => some (!emptyL x.cps.toList)
    | false => none)
  | d => (match dctV S d with
    | some kds => some (!emptyL kds)
    | none => (match seqV S d with
      | some ds => some (!emptyL ds)
      | none => none))
theorem tru_of {M : Wd} {S : Sto} {H : Hp} {d : D} {v : V} {k : Bool} {Q : Bool → Hp → Prop} (s : Sim C M S H) (r : Rep C M d v) (h : truD S d = some k) (q : Q k H) : truR C.K v H Q := by
  unfold truD at h
  split at h
  · cases h; cases r; exact .inl ⟨_, rfl, q⟩
  · cases h; cases r; exact .inl ⟨_, rfl, q⟩
  · cases h; cases r
    refine .inl ⟨_, rfl, ?_⟩
    rename_i i
    have : (i != 0) = !eqB i 0 := by rw [bne, eqB_beq]
    rw [this]; exact q
  · rename_i x
    split at h
    · rename_i g
      cases h; cases r
      refine .inl ⟨_, ⟨lineOk_ok g, rfl⟩, ?_⟩
      have : (((x.length : Nat) : Int) != 0) = !emptyL x.cps.toList := by
        rw [emptyL_eq]
        show (((x.cps.size : Nat) : Int) != 0) = _
        cases x with
        | mk cps =>
          cases cps with
          | mk l => cases l <;> simp <;> omega
      rw [this]; exact q
    · cases h
  · split at h
    · rename_i kds e
      cases h
      obtain ⟨a, kvs, rfl, h1, r1⟩ := dct_of s r e
      refine .inr ⟨a, kvs, rfl, h1, ?_⟩
      have : (!kvs.isEmpty) = !emptyL kds := by
        rw [emptyL_eq]
        have := congrArg List.length r1.1
        simp only [List.length_map] at this
        cases kds <;> cases kvs <;> simp at this ⊢
      rw [this]; exact q
    · split at h
      · rename_i ds e
        cases h
        obtain ⟨a, vs, rfl, h1, r1⟩ := seq_of s r e
        have e1 : (!vs.isEmpty) = !emptyL ds := by
          rw [emptyL_eq]
          have := r1.1
          cases ds <;> cases vs <;> simp at this ⊢
        rcases h1 with h1 | h1
        · exact .inl ⟨_, .inl ⟨vs, h1, rfl⟩, by rw [e1]; exact q⟩
        · exact .inl ⟨_, .inr (.inl ⟨vs, h1, rfl⟩), by rw [e1]; exact q⟩
      · cases h
end
end Pd

namespace Pd
open PySem PySem.Spec L2

abbrev DT := Ga → Sto → Res Bool
section
variable {C : Cfg} {W : XK} {M M' : Wd} {Γ : Ga} {S : Sto} {σ : St} {H : Hp}
theorem Rbind_bad {α β : Type} {f : α → Sto → Res β} : (Res.bad : Res α).bind f = .bad := rfl
theorem GoodB.imp {r : Res Bool} {Q Q' : Bool → Hp → Prop} (g : GoodB C M r Q W) (h : ∀ v H, Q v H → Q' v H) : GoodB C M r Q' W := by
  cases r with
  | ok a S => exact fun M2 H' l2 s => h _ _ (g M2 H' l2 s)
  | exc c fs S => exact g
  | bad => exact g
/-- an expression, then a test of its value -/
theorem run1B {fa : DE} {f : D → Sto → Res Bool} {Q : Bool → Hp → Prop} {K1 : V → Hp → Prop} (g : SimG C M Γ σ) (s : Sim C M S H) (h : GoodB C M ((fa Γ S).bind fun a S1 => f a S1) Q W)
    (k : ∀ M' a S' x H', M.le M' → Sim C M' S' H' → Rep C M' a x → GoodB C M' (f a S') Q W → K1 x H') : tE C W fa σ H K1 := by
  refine ⟨M, Γ, S, g, s, ?_⟩
  cases ea : fa Γ S with
  | bad => rw [ea] at h; exact h
  | exc c fs S1 => rw [ea] at h; exact h
  | ok a S1 =>
    rw [ea] at h
    intro M1 x H1 l1 s1 r1
    exact k M1 a S1 x H1 l1 s1 r1 (GoodB.mono l1 h)
theorem run2B {fa fb : DE} {f : D → D → Sto → Res Bool} {Q : Bool → Hp → Prop} {K2 : V → V → Hp → Prop} (g : SimG C M Γ σ) (s : Sim C M S H) (h : GoodB C M ((fa Γ S).bind fun a S1 => (fb Γ S1).bind fun b S2 => f a b S2) Q W)
    (k : ∀ M' a b S' x y H', M.le M' → Sim C M' S' H' → Rep C M' a x → Rep C M' b y → GoodB C M' (f a b S') Q W → K2 x y H') :
    tE C W fa σ H fun x H1 => tE C W fb σ H1 fun y H2 => K2 x y H2 := by
  refine run1B g s h fun M1 a S1 x H1 l1 s1 r1 h1 => ?_
  exact run1B (g.mono l1) s1 h1 fun M2 b S2 y H2 l2 s2 r2 h2 => k M2 a b S2 x y H2 (l1.trans l2) s2 (r1.mono l2) r2 h2
/-- a test, then more -/
theorem runT {ft : DT} {f : Bool → Sto → Res D} {Q : VK} {K1 : Bool → Hp → Prop} (g : SimG C M Γ σ) (s : Sim C M S H) (h : GoodE C M ((ft Γ S).bind fun a S1 => f a S1) Q W)
    (k : ∀ M' a S' H', M.le M' → Sim C M' S' H' → GoodE C M' (f a S') Q W → K1 a H') : tT C W ft σ H K1 := by
  refine ⟨M, Γ, S, g, s, ?_⟩
  cases ea : ft Γ S with
  | bad => rw [ea] at h; exact h
  | exc c fs S1 => rw [ea] at h; exact h
  | ok a S1 =>
    rw [ea] at h
    intro M1 H1 l1 s1
    exact k M1 a S1 H1 l1 s1 (GoodE.mono l1 h)
theorem runTB {ft : DT} {f : Bool → Sto → Res Bool} {Q : Bool → Hp → Prop} {K1 : Bool → Hp → Prop} (g : SimG C M Γ σ) (s : Sim C M S H) (h : GoodB C M ((ft Γ S).bind fun a S1 => f a S1) Q W)
    (k : ∀ M' a S' H', M.le M' → Sim C M' S' H' → GoodB C M' (f a S') Q W → K1 a H') : tT C W ft σ H K1 := by
  refine ⟨M, Γ, S, g, s, ?_⟩
  cases ea : ft Γ S with
  | bad => rw [ea] at h; exact h
  | exc c fs S1 => rw [ea] at h; exact h
  | ok a S1 =>
    rw [ea] at h
    intro M1 H1 l1 s1
    exact k M1 a S1 H1 l1 s1 (GoodB.mono l1 h)
end

/-! ### tests -/
def trB : D → Sto → Res Bool := fun d S => match truD S d with
  | some b => .ok b S
  | none => .bad
def blB : D → Sto → Res Bool := fun d S => match d with
  | .bl b => .ok b S
  | _ => .bad
def dTr (fa : DE) : DT := fun Γ S => (fa Γ S).bind trB
def t2 (f : D → D → Sto → Res D) (fa fb : DE) : DT := fun Γ S => (fa Γ S).bind fun a S1 => (fb Γ S1).bind fun b S2 => (f a b S2).bind blB
section
variable {X : Cx} {C : Cfg} {W : XK} {fa fb fc : DE} {a b c : Expr} {pos : Pos} {f f' : D → D → Sto → Res D} {ft fu : DT}
theorem xtr (hK : X.K = C.K) (ha : PE X a (tE C W fa)) (he : ∀ whole, isTrue a X.env whole = (do let v ← whole; standAt a.pos; holding [v] (truthy v)) := by intro _; rfl) : PT X a (tT C W (dTr fa)) := by
  refine ⟨fun pins s σ H Q I h => ?_⟩; obtain ⟨M, Γ, S, g, sm, h⟩ := h
  have h2 := run1B g sm h (K1 := fun x H' => truR X.K x H' Q) fun M' a S' x H' l s' r q => by
    unfold trB at q
    split at q
    · rename_i k e
      rw [hK]
      exact tru_of s' r e (q M' H' (.refl M') s')
    · exact q.elim
  exact PyProof.Rows.isTrue_plain (thn (ha.run pins s σ H _ I h2) fun v s1 ⟨x, H1, I1, r1, q1⟩ => tru_okD pins s1 σ H1 x v Q I1 r1 q1) (he _)
/-- an operator's answer, a bool, as a test -/
theorem OpD.test {op : Value → Value → Sem Value} (ho : OpD X C W op f) : ∃ r : R2, OpR X op r ∧ ∀ M S H a b x y (Q : Bool → Hp → Prop), Sim C M S H → Rep C M a x → Rep C M b y → GoodB C M ((f a b S).bind blB) Q W → r x y H fun z H' => ∃ k, z = .bl k ∧ Q k H' := by
  obtain ⟨r, hr, k⟩ := ho
  refine ⟨r, hr, fun M S H a b x y Q s ra rb q => k M S H a b x y _ s ra rb ?_⟩
  cases e : f a b S with
  | bad => rw [e] at q; exact q
  | exc c fs S1 => rw [e] at q; exact q
  | ok d S1 =>
    rw [e] at q
    intro M' v H' l s' r'
    have q' : GoodB C M (blB d S1) Q W := q
    unfold blB at q'
    split at q'
    · cases r'
      exact ⟨_, rfl, q' M' H' l s'⟩
    · exact q'.elim
theorem xtcmp {op : CmpOp} (ho : OpD X C W (compareOp op) f) (ha : PE X a (tE C W fa)) (hb : PE X b (tE C W fb)) (hm : behindInMarks op b = false) : PT X (.Compare a [op] [b] pos) (tT C W (t2 f fa fb)) := by
  obtain ⟨r, hr, k⟩ := ho.test
  exact (pt_cmpR hr ha hb hm).by fun σ H Q ⟨M, Γ, S, g, s, h⟩ => run2B g s h fun M' a b S' x y H' l s' ra rb q => k M' S' H' a b x y Q s' ra rb q
/-- a op b op' c -/
def tch (f f' : D → D → Sto → Res D) (fa fb fc : DE) : DT := fun Γ S => (fa Γ S).bind fun a S1 => (fb Γ S1).bind fun b S2 => ((f a b S2).bind blB).bind fun k S3 => match k with
  | true => (fc Γ S3).bind fun c S4 => (f' b c S4).bind blB
  | false => .ok false S3
theorem xtch {op op' : CmpOp} (ho : OpD X C W (compareOp op) f) (ho' : OpD X C W (compareOp op') f') (ha : PE X a (tE C W fa)) (hb : PE X b (tE C W fb)) (hc : PE X c (tE C W fc))
    (hm : lastMarks [op, op'] [b, c] = false := by with_unfolding_all rfl) : PT X (.Compare a [op, op'] [b, c] pos) (tT C W (tch f f' fa fb fc)) := by
  obtain ⟨r, hr, k⟩ := ho.test
  obtain ⟨r', hr', k'⟩ := ho'.test
  refine (pt_chain hr hr' ha hb hc hm).by fun σ H Q ⟨M, Γ, S, g, s, h⟩ => ?_
  refine run1B g s h fun M1 a S1 x H1 l1 s1 ra h1 => ?_
  have g1 := g.mono l1
  refine run1B g1 s1 h1 fun M2 b S2 y H2 l2 s2 rb h2 => ?_
  have g2 := g1.mono l2
  have h2 : GoodB C M2 (((f a b S2).bind blB).bind fun k S3 => match k with
    | true => (fc Γ S3).bind fun c S4 => (f' b c S4).bind blB
    | false => .ok false S3) Q W := h2
  have key : GoodB C M2 ((f a b S2).bind blB) (fun k H3 => if k = true then tE C W fc σ H3 (fun w' H4 => r' y w' H4 fun z H5 => ∃ k, z = .bl k ∧ Q k H5) else Q false H3) W := by
    cases e : (f a b S2).bind blB with
    | bad => rw [e] at h2; exact h2
    | exc c fs S3 => rw [e] at h2; exact h2
    | ok k S3 =>
      rw [e] at h2
      intro M3 H3 l3 s3
      cases k with
      | false => exact iteF (h2 M3 H3 l3 s3)
      | true =>
        refine iteT ?_
        have h3 : GoodB C M2 ((fc Γ S3).bind fun c S4 => (f' b c S4).bind blB) Q W := h2
        refine run1B (g2.mono l3) s3 (GoodB.mono l3 h3) fun M4 c S4 w H4 l4 s4 rc h4 => ?_
        exact k' M4 S4 H4 b c y w Q s4 ((rb.mono l3).mono l4) rc h4
  have z := k M2 S2 H2 a b x y _ s2 (ra.mono l2) rb key
  -- the chain's reading: the first answer decides
  exact (show r x y H2 (fun z H3 => ∃ k, z = .bl k ∧ (if k = true then tE C W fc σ H3 (fun w' H4 => r' y w' H4 fun z H5 => ∃ k, z = .bl k ∧ Q k H5) else (∃ k, V.bl false = .bl k ∧ Q k H3))) from by
    have z2 := k M2 S2 H2 a b x y (fun k H3 => if k = true then tE C W fc σ H3 (fun w' H4 => r' y w' H4 fun z H5 => ∃ k, z = .bl k ∧ Q k H5) else (∃ k, V.bl false = .bl k ∧ Q k H3)) s2 (ra.mono l2) rb (key.imp fun v H q => by
      cases v with
      | true => exact iteT (by simpa using q)
      | false => exact iteF ⟨false, rfl, by simpa using q⟩)
    exact z2)
/-! ### not, and, or -/
def dNot (ft : DT) : DT := fun Γ S => (ft Γ S).bind fun k S1 => .ok (!k) S1
def dAnd (ft fu : DT) : DT := fun Γ S => (ft Γ S).bind fun k S1 => match k with
  | true => fu Γ S1
  | false => .ok false S1
def dOr (ft fu : DT) : DT := fun Γ S => (ft Γ S).bind fun k S1 => match k with
  | true => .ok true S1
  | false => fu Γ S1
theorem xnot (ha : PT X a (tT C W ft)) : PT X (.UnaryOp .Not a pos) (tT C W (dNot ft)) :=
  (pt_not ha).by fun σ H Q ⟨M, Γ, S, g, s, h⟩ => runTB g s h fun M' a S' H' l s' q => q M' H' (.refl M') s'
theorem PW.by {e : Expr} {t t' : TT} (h : PW X e t) (i : ∀ σ H Q, t' σ H Q → t σ H Q) : PW X e t' := ⟨fun wh pins s σ H Q I q => h.run wh pins s σ H Q I (i σ H Q q)⟩
theorem xand {rest : List Expr} (ha : PT X a (tT C W ft)) (hb : PW X (.BoolOp .And (b :: rest) pos) (tT C W fu)) : PW X (.BoolOp .And (a :: b :: rest) pos) (tT C W (dAnd ft fu)) :=
  PW.by (pw_and ha hb) fun σ H Q ⟨M, Γ, S, g, s, h⟩ => runTB g s h fun M' a S' H' l s' q => by
    cases a with
    | true => exact iteT ⟨M', Γ, S', g.mono l, s', q⟩
    | false => exact iteF (q M' H' (.refl M') s')
theorem xor {rest : List Expr} (ha : PT X a (tT C W ft)) (hb : PW X (.BoolOp .Or (b :: rest) pos) (tT C W fu)) : PW X (.BoolOp .Or (a :: b :: rest) pos) (tT C W (dOr ft fu)) :=
  PW.by (pw_or ha hb) fun σ H Q ⟨M, Γ, S, g, s, h⟩ => runTB g s h fun M' a S' H' l s' q => by
    cases a with
    | true => exact iteT (q M' H' (.refl M') s')
    | false => exact iteF ⟨M', Γ, S', g.mono l, s', q⟩
/-! .. as values: by truth -/
def vTr (S : Sto) (d : D) : Res Bool := match truD S d with
  | some b => .ok b S
  | none => .bad
def dNotV (fa : DE) : DE := fun Γ S => (fa Γ S).bind fun d S1 => (vTr S1 d).bind fun k S2 => .ok (.bl (!k)) S2
def dAndV (fa fb : DE) : DE := fun Γ S => (fa Γ S).bind fun d S1 => (vTr S1 d).bind fun k S2 => match k with
  | true => fb Γ S2
  | false => .ok d S2
def dOrV (fa fb : DE) : DE := fun Γ S => (fa Γ S).bind fun d S1 => (vTr S1 d).bind fun k S2 => match k with
  | true => .ok d S2
  | false => fb Γ S2
/-- a value's truth at the level of the machine, whatever the value -/
theorem tru_run {pins : List (Addr × Obj)} {s : Shared} {σ : St} {H : Hp} {M : Wd} {S : Sto} {d : D} {x : V} {v : Value} {k : Bool} (hK : X.K = C.K) (I : Inv X pins σ H s) (rv : RelV x v) (sm : Sim C M S H) (r : Rep C M d x) (e : truD S d = some k) {Q : Bool → Shared → Prop}
    (h : ∀ s', Inv X pins σ H s' → Q k s') : wpAny (model X.prog X.w) X.A (truthy v) Q X.xe s := by
  refine thn (tru_okD pins s σ H x v (fun c H2 => c = k ∧ H2 = H) I rv (hK ▸ tru_of sm r e ⟨rfl, rfl⟩)) fun c s' ⟨H2, I2, e1, e2⟩ => ?_
  subst e1 e2
  exact h s' I2
theorem xnotV (hK : X.K = C.K) (ha : PE X a (tE C W fa)) : PE X (.UnaryOp .Not a pos) (tE C W (dNotV fa)) := by
  refine ⟨fun pins s σ H Q I ⟨M, Γ, S, g, sm, h⟩ => ?_⟩
  have h2 := run1 g sm h (K1 := fun x H' => ∃ M' S' d k, Sim C M' S' H' ∧ Rep C M' d x ∧ truD S' d = some k ∧ Q (.bl (!k)) H') fun M' d S' x H' l s' r q => by
    unfold vTr at q
    cases e : truD S' d with
    | none => rw [e] at q; exact q.elim
    | some k => rw [e] at q; exact ⟨M', S', d, k, s', r, e, GoodE.ok (v := .bl (!k)) q s' (.bl _)⟩
  refine PyProof.Rows.UnaryOp_ (thn (ha.run pins s σ H _ I h2) fun v s1 ⟨x, H1, I1, r1, M', S', d, k, s', r, e, q⟩ => ?_)
  exact PyProof.Rows.not_of (tru_run hK I1 r1 s' r e fun s2 I2 => ⟨.bl (!k), H1, I2, rfl, q⟩)
theorem xandV {rest : List Expr} (hK : X.K = C.K) (ha : PE X a (tE C W fa)) (hb : PE X (.BoolOp .And (b :: rest) pos) (tE C W fb)) : PE X (.BoolOp .And (a :: b :: rest) pos) (tE C W (dAndV fa fb)) := by
  refine ⟨fun pins s σ H Q I ⟨M, Γ, S, g, sm, h⟩ => ?_⟩
  have h2 := run1 g sm h (K1 := fun x H' => ∃ M' S' d k, M.le M' ∧ Sim C M' S' H' ∧ Rep C M' d x ∧ truD S' d = some k ∧ GoodE C M' (match k with | true => fb Γ S' | false => .ok d S') Q W) fun M' d S' x H' l s' r q => by
    unfold vTr at q
    cases e : truD S' d with
    | none => rw [e] at q; exact q.elim
    | some k => rw [e] at q; exact ⟨M', S', d, k, l, s', r, e, q⟩
  refine PyProof.Rows.BoolOp_and (thn (ha.run pins s σ H _ I h2) fun v s1 ⟨x, H1, I1, r1, M', S', d, k, l, s', r, e, q⟩ => ?_)
  refine tru_run hK I1 r1 s' r e fun s2 I2 => ?_
  cases k with
  | true => exact hb.run pins s2 σ H1 Q I2 ⟨M', Γ, S', g.mono l, s', q⟩
  | false => exact ⟨x, H1, I2, r1, q.ok s' r⟩
theorem xorV {rest : List Expr} (hK : X.K = C.K) (ha : PE X a (tE C W fa)) (hb : PE X (.BoolOp .Or (b :: rest) pos) (tE C W fb)) : PE X (.BoolOp .Or (a :: b :: rest) pos) (tE C W (dOrV fa fb)) := by
  refine ⟨fun pins s σ H Q I ⟨M, Γ, S, g, sm, h⟩ => ?_⟩
  have h2 := run1 g sm h (K1 := fun x H' => ∃ M' S' d k, M.le M' ∧ Sim C M' S' H' ∧ Rep C M' d x ∧ truD S' d = some k ∧ GoodE C M' (match k with | true => .ok d S' | false => fb Γ S') Q W) fun M' d S' x H' l s' r q => by
    unfold vTr at q
    cases e : truD S' d with
    | none => rw [e] at q; exact q.elim
    | some k => rw [e] at q; exact ⟨M', S', d, k, l, s', r, e, q⟩
  refine PyProof.Rows.BoolOp_or (thn (ha.run pins s σ H _ I h2) fun v s1 ⟨x, H1, I1, r1, M', S', d, k, l, s', r, e, q⟩ => ?_)
  refine tru_run hK I1 r1 s' r e fun s2 I2 => ?_
  cases k with
  | true => exact ⟨x, H1, I2, r1, q.ok s' r⟩
  | false => exact hb.run pins s2 σ H1 Q I2 ⟨M', Γ, S', g.mono l, s', q⟩
/-! ### a if t else b -/
def dIf (ft : DT) (fa fb : DE) : DE := fun Γ S => (ft Γ S).bind fun k S1 => match k with
  | true => fa Γ S1
  | false => fb Γ S1
theorem xif (hc : PT X c (tT C W ft)) (ha : PE X a (tE C W fa)) (hb : PE X b (tE C W fb)) : PE X (.IfExp c a b pos) (tE C W (dIf ft fa fb)) :=
  (pe_ifExp hc ha hb).by fun σ H Q ⟨M, Γ, S, g, s, h⟩ => runT g s h fun M' a S' H' l s' q => by
    cases a with
    | true => exact iteT ⟨M', Γ, S', g.mono l, s', q⟩
    | false => exact iteF ⟨M', Γ, S', g.mono l, s', q⟩
end

/-! ### arguments, displays -/
def aNil : DA := fun _ S => .ok [] S
def aCons (fa : DE) (fr : DA) : DA := fun Γ S => (fa Γ S).bind fun d S1 => (fr Γ S1).bind fun ds S2 => .ok (d :: ds) S2
section
variable {C : Cfg} {W : XK} {M M' : Wd} {Γ : Ga} {S : Sto} {σ : St} {H : Hp}
theorem run1A {fa : DE} {f : D → Sto → Res (List D)} {Q : List V → Hp → Prop} {K1 : V → Hp → Prop} (g : SimG C M Γ σ) (s : Sim C M S H) (h : GoodA C M ((fa Γ S).bind fun a S1 => f a S1) Q W)
    (k : ∀ M' a S' x H', M.le M' → Sim C M' S' H' → Rep C M' a x → GoodA C M' (f a S') Q W → K1 x H') : tE C W fa σ H K1 := by
  refine ⟨M, Γ, S, g, s, ?_⟩
  cases ea : fa Γ S with
  | bad => rw [ea] at h; exact h
  | exc c fs S1 => rw [ea] at h; exact h
  | ok a S1 =>
    rw [ea] at h
    intro M1 x H1 l1 s1 r1
    exact k M1 a S1 x H1 l1 s1 r1 (GoodA.mono l1 h)
theorem runAA {fa : DA} {f : List D → Sto → Res (List D)} {Q : List V → Hp → Prop} {K1 : List V → Hp → Prop} (g : SimG C M Γ σ) (s : Sim C M S H) (h : GoodA C M ((fa Γ S).bind fun a S1 => f a S1) Q W)
    (k : ∀ M' a S' x H', M.le M' → Sim C M' S' H' → RepL C M' a x → GoodA C M' (f a S') Q W → K1 x H') : tA C W fa σ H K1 := by
  refine ⟨M, Γ, S, g, s, ?_⟩
  cases ea : fa Γ S with
  | bad => rw [ea] at h; exact h
  | exc c fs S1 => rw [ea] at h; exact h
  | ok a S1 =>
    rw [ea] at h
    intro M1 x H1 l1 s1 r1
    exact k M1 a S1 x H1 l1 s1 r1 (GoodA.mono l1 h)
theorem runA {fa : DA} {f : List D → Sto → Res D} {Q : VK} {K1 : List V → Hp → Prop} (g : SimG C M Γ σ) (s : Sim C M S H) (h : GoodE C M ((fa Γ S).bind fun a S1 => f a S1) Q W)
    (k : ∀ M' a S' x H', M.le M' → Sim C M' S' H' → RepL C M' a x → GoodE C M' (f a S') Q W → K1 x H') : tA C W fa σ H K1 := by
  refine ⟨M, Γ, S, g, s, ?_⟩
  cases ea : fa Γ S with
  | bad => rw [ea] at h; exact h
  | exc c fs S1 => rw [ea] at h; exact h
  | ok a S1 =>
    rw [ea] at h
    intro M1 x H1 l1 s1 r1
    exact k M1 a S1 x H1 l1 s1 r1 (GoodE.mono l1 h)
theorem GoodA.ok {a : List D} {vs : List V} {Q : List V → Hp → Prop} (g : GoodA C M (.ok a S) Q W) (s : Sim C M S H) (r : RepL C M a vs) : Q vs H := g M vs H (.refl M) s r
end
section
variable {X : Cx} {C : Cfg} {W : XK} {fa : DE} {fr : DA} {e : Expr} {es : List Expr} {pos : Pos}
theorem xanil : PA X [] (tA C W aNil) := pa_nil.by fun σ H Q ⟨M, Γ, S, g, s, h⟩ => GoodA.ok (C := C) h s .nil
theorem xacons (ha : PE X e (tE C W fa)) (hr : PA X es (tA C W fr)) (hs : starEach (e :: es) X.env = (false, eval e X.env) :: starEach es X.env := by rfl) : PA X (e :: es) (tA C W (aCons fa fr)) :=
  (pa_cons ha hr hs).by fun σ H Q ⟨M, Γ, S, g, s, h⟩ => run1A g s h fun M1 d S1 x H1 l1 s1 r1 h1 =>
    runAA (g.mono l1) s1 h1 fun M2 ds S2 xs H2 l2 s2 r2 h2 => GoodA.ok (C := C) h2 s2 (.cons (r1.mono l2) r2)
def dTup (fr : DA) : DE := fun Γ S => (fr Γ S).bind fun ds S1 => guard (lineOk ds.length) (.ok (.tup ds) S1)
def dLst (fr : DA) : DE := fun Γ S => (fr Γ S).bind fun ds S1 => guard (lineOk ds.length) (.ok (.lst ds) S1)
/-- a list that is to change -/
def dLstM (fr : DA) : DE := fun Γ S => (fr Γ S).bind fun ds S1 => guard (lineOk ds.length) (.ok (.ref S1.nx) (S1.new (.lst ds)))
theorem xtup {x1} (h : PA X es (tA C W fr)) : PE X (.Tuple es x1 pos) (tE C W (dTup fr)) :=
  (pe_tup h).by fun σ H Q ⟨M, Γ, S, g, s, h⟩ => runA g s h fun M1 ds S1 xs H1 l1 s1 r1 h1 => by
    obtain ⟨g1, h1⟩ := guard_ok h1
    exact ⟨by rw [← r1.1]; exact lineOk_ok g1, fun p hp => newTup h1 s1 r1 hp⟩
theorem xlst (h : PA X es (tA C W fr)) : PE X (.List es pos) (tE C W (dLst fr)) :=
  (pe_lst h).by fun σ H Q ⟨M, Γ, S, g, s, h⟩ => runA g s h fun M1 ds S1 xs H1 l1 s1 r1 h1 => by
    obtain ⟨g1, h1⟩ := guard_ok h1
    exact ⟨by rw [← r1.1]; exact lineOk_ok g1, fun p hp => newLst h1 s1 r1 hp⟩
theorem xlstM (h : PA X es (tA C W fr)) : PE X (.List es pos) (tE C W (dLstM fr)) :=
  (pe_lst h).by fun σ H Q ⟨M, Γ, S, g, s, h⟩ => runA g s h fun M1 ds S1 xs H1 l1 s1 r1 h1 => by
    obtain ⟨g1, h1⟩ := guard_ok h1
    exact ⟨by rw [← r1.1]; exact lineOk_ok g1, fun p hp => newSto h1 s1 ⟨xs, rfl, r1⟩ hp⟩
/-! ### what may change is frozen from here on -/
def frz : D → Sto → Res D := fun d S => match d with
  | .ref n => (match S.at n with
    | some (.lst ds) => .ok (.lst ds) (S.del n)
    | some (.dct ds) => .ok (.dct ds) (S.del n)
    | some (.ins c fs) => .ok (.ins c fs) (S.del n)
    | some (.dtt ds) => .ok (.dtt ds) (S.del n)
    | _ => .bad)
  | d => .ok d S
theorem frz_ok {M : Wd} {S : Sto} {H : Hp} {d : D} {v : V} {Q : VK} (s : Sim C M S H) (r : Rep C M d v) (q : GoodE C M (frz d S) Q W) : Q v H := by
  unfold frz at q
  split at q
  · rename_i n
    cases r
    rename_i a hm
    cases e : S.at n with
    | none => rw [e] at q; exact q.elim
    | some m =>
      obtain ⟨b, o, h1, h2, h3, h4⟩ := s.freeze e
      rw [hm] at h1; cases h1
      have l : M.le (M.lay a o) := Wd.lay_le h3
      rw [e] at q
      cases m with
      | lst ds =>
        obtain ⟨vs, rfl, r⟩ := h2
        exact q _ _ _ l h4 (.lst (show upd M.fz a (.lst vs) a = _ from upd_same) r.1 (r.mono l).2)
      | dct ds =>
        obtain ⟨vs, rfl, r⟩ := h2
        exact q _ _ _ l h4 (.dct (.inl (show upd M.fz a (.dK vs) a = _ from upd_same)) r.1 (r.mono l).2)
      | dtt ds =>
        obtain ⟨vs, rfl, r⟩ := h2
        exact q _ _ _ l h4 (.dtt (.inl (show upd M.fz a (.dT vs) a = _ from upd_same)) r.1 (r.mono l).2)
      | lck m => exact q.elim
      | ins c fs =>
        obtain ⟨dx, fv, rfl, r⟩ := h2
        exact q _ _ _ l h4 (.ins (show upd M.fz a (.ins (C.ga c) dx fv) a = _ from upd_same) r.1 (r.mono l).2)
  · exact q.ok s r
def dFrz (fa : DE) : DE := fun Γ S => (fa Γ S).bind frz
theorem xfrz (ha : PE X e (tE C W fa)) : PE X e (tE C W (dFrz fa)) := ha.by fun σ H Q ⟨M, Γ, S, g, s, h⟩ => run1 g s h fun M1 d S1 x H1 l1 s1 r1 h1 => frz_ok s1 r1 h1
end
end Pd

namespace Pd
open PySem PySem.Spec L2

/-! ### own defs -/
def spD (C : Cfg) (n : Nat) (f : List D → Sto → Res D) : Sp := fun vs H Q E => ∃ M S ds, ds.length = n ∧ Sim C M S H ∧ RepL C M ds vs ∧ GoodE C M (f ds S) Q E
def lenIs : Nat → List D → Bool
  | 0, [] => true
  | n + 1, _ :: r => lenIs n r
  | _, _ => false
theorem lenIs_ok : ∀ {n : Nat} {ds : List D}, lenIs n ds = true → ds.length = n
  | 0, [], _ => rfl
  | 0, _ :: _, h => by cases h
  | _ + 1, [], h => by cases h
  | n + 1, _ :: r, h => by rw [List.length_cons, lenIs_ok (n := n) (ds := r) h]
def dCall (n : Nat) (f : List D → Sto → Res D) (fr : DA) : DE := fun Γ S => (fr Γ S).bind fun ds S1 => guard (lenIs n ds) (f ds S1)
section
variable {X : Cx} {C : Cfg} {W : XK} {CX : CXT} {k n : Nat} {f : Addr} {fd : FuncData} {ps : List Str} {fn : List D → Sto → Res D} {x m : Str} {p pos apos : Pos} {e o : Expr} {es : List Expr} {fr : DA} {fo : DE}
theorem xcall (F : FnOk X.prog X.w X.K X.mg X.base CX k f fd ps (spD C n fn)) (hr : Room k X.A) (hg : Gl X x) (hm : X.mg x = some (.ref f)) (hk : PySem.W.keepIn X.K (.ref f) = true) (hb : Binds X.K fd ps []) (hx : Passes CX X W)
    (ha : PA X (e :: es) (tA C W fr)) (hdb : (x == ("__debug__" : Str)) = false := by decide) (he : starEach (e :: es) X.env = (false, eval e X.env) :: starEach es X.env := by rfl) (hpl : (backTo pos (starEach es X.env)).any (·.1) = false := by rfl) :
    PE X (.Call (.Name x p) (e :: es) [] pos) (tE C W (dCall n fn fr)) :=
  (pe_call F hr hg hm hk hb .nil hx ha hdb he hpl).by fun σ H Q ⟨M, Γ, S, g, s, h⟩ => runA g s h fun M1 ds S1 vs H1 l1 s1 r1 h1 => by
    obtain ⟨g1, h1⟩ := guard_ok h1
    rw [List.append_nil]
    exact ⟨M1, S1, ds, lenIs_ok g1, s1, r1, h1⟩
theorem xcall0 (F : FnOk X.prog X.w X.K X.mg X.base CX k f fd ps (spD C 0 fn)) (hr : Room k X.A) (hg : Gl X x) (hm : X.mg x = some (.ref f)) (hk : PySem.W.keepIn X.K (.ref f) = true) (hb : Binds X.K fd ps []) (hx : Passes CX X W)
    (hdb : (x == ("__debug__" : Str)) = false := by decide) : PE X (.Call (.Name x p) [] [] pos) (tE C W (dCall 0 fn aNil)) :=
  (pe_call0 F hr hg hm hk hb .nil hx hdb).by fun σ H Q ⟨M, Γ, S, g, s, h⟩ => ⟨M, S, [], rfl, s, .nil, h⟩

/-! ### attributes -/
def lookF : List (Nat × D) → Nat → Option D
  | [], _ => none
  | (k, d) :: r, j => (match Nat.beq k j with
    | true => some d
    | false => lookF r j)
def putA : List (Nat × D) → Nat → D → List (Nat × D)
  | [], j, v => [(j, v)]
  | (k, d) :: r, j, v => (match Nat.beq k j with
    | true => (k, v) :: r
    | false => (k, d) :: putA r j v)
theorem RepF.cons_inv {M : Wd} {k : Nat} {d : D} {fs : List (Nat × D)} {fv : List (Str × V)} (r : RepF C M ((k, d) :: fs) fv) : ∃ nm v fv', fv = (nm, v) :: fv' ∧ C.an[k]? = some nm ∧ Rep C M d v ∧ RepF C M fs fv' := by
  cases fv with
  | nil => have := r.1; simp at this
  | cons q fv' =>
    obtain ⟨nm, v⟩ := q
    have h : C.an[k]? = some nm ∧ fs.map (fun p => C.an[p.1]?) = fv'.map (fun p => some p.1) := by simpa using r.1
    exact ⟨nm, v, fv', rfl, h.1, r.2 0 k d nm v rfl rfl, h.2, fun i a b c e h1 h2 => r.2 (i + 1) a b c e (by simpa using h1) (by simpa using h2)⟩
theorem RepF.nil_inv {M : Wd} {fv : List (Str × V)} (r : RepF C M [] fv) : fv = [] := by
  cases fv with
  | nil => rfl
  | cons q fv' => have := r.1; simp at this
theorem RepF.cons {M : Wd} {k : Nat} {d : D} {nm : Str} {v : V} {fs : List (Nat × D)} {fv : List (Str × V)} (hk : C.an[k]? = some nm) (h : Rep C M d v) (r : RepF C M fs fv) : RepF C M ((k, d) :: fs) ((nm, v) :: fv) :=
  ⟨by simp only [List.map_cons, hk, r.1], fun i a b c e h1 h2 => by
    cases i with
    | zero => simp at h1 h2; obtain ⟨rfl, rfl⟩ := h1; obtain ⟨rfl, rfl⟩ := h2; exact h
    | succ i => exact r.2 i a b c e (by simpa using h1) (by simpa using h2)⟩
theorem RepF.nil {M : Wd} : RepF C M [] [] := ⟨rfl, fun i a b c e h1 h2 => by simp at h1⟩
theorem an_inj (nd : C.an.Nodup) {i j : Nat} {x : Str} (a : C.an[i]? = some x) (b : C.an[j]? = some x) : i = j := nodup_ix nd a b
theorem lookF_of {M : Wd} (nd : C.an.Nodup) {j : Nat} {nm : Str} (hj : C.an[j]? = some nm) : ∀ {fs : List (Nat × D)} {fv : List (Str × V)} {d : D}, RepF C M fs fv → lookF fs j = some d → ∃ v, fv.lookup nm = some v ∧ Rep C M d v
  | [], fv, d, _, h => by cases h
  | (k, d0) :: fs, fv, d, r, h => by
    obtain ⟨n0, v, fv', rfl, hk, r0, r1⟩ := r.cons_inv
    unfold lookF at h
    cases e : Nat.beq k j with
    | true =>
      have := Nat.eq_of_beq_eq_true e
      subst this
      rw [hk] at hj; cases hj
      rw [e] at h; cases h
      exact ⟨v, by simp [List.lookup], r0⟩
    | false =>
      rw [e] at h
      obtain ⟨u, h1, h2⟩ := lookF_of nd hj r1 h
      have hne : nm ≠ n0 := fun z => by subst z; have := an_inj nd hk hj; rw [this, Nat.beq_refl] at e; cases e
      exact ⟨u, by rw [List.lookup_cons, beq_eq_false_iff_ne.mpr hne]; exact h1, h2⟩
theorem noF_of {M : Wd} {nm : Str} (hn : nm ∉ C.an) : ∀ {fs : List (Nat × D)} {fv : List (Str × V)}, RepF C M fs fv → fv.lookup nm = none
  | [], fv, r => by rw [r.nil_inv]; rfl
  | (k, d0) :: fs, fv, r => by
    obtain ⟨n0, v, fv', rfl, hk, r0, r1⟩ := r.cons_inv
    have hne : nm ≠ n0 := fun z => by subst z; exact hn (List.mem_of_getElem? hk)
    rw [List.lookup_cons, beq_eq_false_iff_ne.mpr hne]; exact noF_of hn r1
theorem putA_of {M : Wd} (nd : C.an.Nodup) {j : Nat} {nm : Str} (hj : C.an[j]? = some nm) {d : D} {v : V} (rv : Rep C M d v) : ∀ {fs : List (Nat × D)} {fv : List (Str × V)}, RepF C M fs fv → RepF C M (putA fs j d) (putF nm v fv)
  | [], fv, r => by rw [r.nil_inv]; exact .cons hj rv .nil
  | (k, d0) :: fs, fv, r => by
    obtain ⟨n0, u, fv', rfl, hk, r0, r1⟩ := r.cons_inv
    unfold putA
    cases e : Nat.beq k j with
    | true =>
      have := Nat.eq_of_beq_eq_true e
      subst this
      rw [hk] at hj; cases hj
      show RepF C M ((k, d) :: fs) (if nm = nm then (nm, v) :: fv' else (nm, u) :: putF nm v fv')
      rw [if_pos rfl]
      exact .cons hk rv r1
    | false =>
      have hne : n0 ≠ nm := fun z => by subst z; have := an_inj nd hk hj; rw [this, Nat.beq_refl] at e; cases e
      show RepF C M ((k, d0) :: putA fs j d) (if n0 = nm then (n0, v) :: fv' else (n0, u) :: putF nm v fv')
      rw [if_neg hne]
      exact .cons hk r0 (putA_of nd hj rv r1)
theorem RepF.length {M : Wd} {fs : List (Nat × D)} {fv : List (Str × V)} (r : RepF C M fs fv) : fs.length = fv.length := by
  have := congrArg List.length r.1
  simpa using this
def dFld (c j : Nat) (fo : DE) : DE := fun Γ S => (fo Γ S).bind fun d S1 => match insV S1 d with
  | some (c', fs) => guard (Nat.beq c' c) (match lookF fs j with
    | some v => .ok v S1
    | none => .bad)
  | none => .bad
theorem xfld {c j : Nat} (hK : X.K = C.K) (nd : C.an.Nodup) (hj : C.an[j]? = some m) (cl : Cls X.K (C.ga c)) (na : NoAttr X.K (C.ga c) m) (ho : PE X o (tE C W fo)) (hb : attributeBase o m X.env (eval o X.env) = eval o X.env := by rfl) : PE X (.Attribute o m pos) (tE C W (dFld c j fo)) :=
  (pe_fld ho hb).by fun σ H Q ⟨M, Γ, S, g, s, h⟩ => run1 g s h fun M1 d S1 x H1 l1 s1 r1 h1 => by
    split at h1
    · rename_i c' fs e
      obtain ⟨g1, h3⟩ := guard_ok h1
      clear h1
      have := Nat.eq_of_beq_eq_true g1
      subst this
      obtain ⟨a, dx, fv, rfl, ha, rf⟩ := ins_of s1 r1 e
      split at h3
      · rename_i v ev
        obtain ⟨u, hu, ru⟩ := lookF_of nd hj rf ev
        exact ⟨a, C.ga c', dx, fv, u, rfl, ha, cl, na, hu, h3.ok s1 ru⟩
      · exact h3.elim
    · exact h1.elim

/-! ### methods, new instances -/
def dMeth (c n : Nat) (f : List D → Sto → Res D) (fo : DE) (fr : DA) : DE := fun Γ S => (fo Γ S).bind fun d S1 => match insV S1 d with
  | some (c', _) => guard (Nat.beq c' c) ((fr Γ S1).bind fun ds S2 => guard (lenIs n (d :: ds)) (f (d :: ds) S2))
  | none => .bad
theorem meth_rd {c : Nat} {K : PySem.W.Frag} (hn : m ∉ C.an) {M : Wd} {Γ : Ga} {S : Sto} {σ : St} {H : Hp} {Q : VK} (g : SimG C M Γ σ) (s : Sim C M S H) (h : GoodE C M (dMeth c n fn fo fr Γ S) Q W) :
    tMeth (C.ga c) m (spD C n fn) [] W (tE C W fo) (tA C W fr) σ H Q := by
  refine run1 g s h fun M1 d S1 x H1 l1 s1 r1 h1 => ?_
  split at h1
  · rename_i c' fs e
    obtain ⟨g1, h3⟩ := guard_ok h1
    clear h1
    have := Nat.eq_of_beq_eq_true g1
    subst this
    obtain ⟨a, dx, fv, rfl, ha, rf⟩ := ins_of s1 r1 e
    refine ⟨a, dx, fv, rfl, ha, noF_of hn rf, ?_⟩
    refine runA (g.mono l1) s1 h3 fun M2 ds S2 vs H2 l2 s2 r2 h2 => ?_
    obtain ⟨g2, h2⟩ := guard_ok h2
    rw [List.append_nil]
    exact ⟨M2, S2, d :: ds, lenIs_ok g2, s2, .cons (r1.mono l2) r2, h2⟩
  · exact h1.elim
theorem xmeth {c : Nat} {pl : Sem Bool} (hn : m ∉ C.an) (ho : PE X o (tE C W fo)) (cl : Cls X.K (C.ga c)) (hm : Meth X.K (C.ga c) m f) (F : FnOk X.prog X.w X.K X.mg X.base CX k f fd ps (spD C n fn)) (hr : Room k X.A) (hb : Binds X.K fd ps []) (hx : Passes CX X W) (ha : PA X (e :: es) (tA C W fr)) (hst : starEach (e :: es) X.env = (false, eval e X.env) :: starEach es X.env := by rfl) (hpl : (backTo pos (starEach es X.env)).any (·.1) = false := by rfl) (ht : eval (.Call (.Attribute o m apos) (e :: es) [] pos) X.env = (do let ov ← eval o X.env; standAt apos.atName; let (f, first) ← holding [ov] (getMethod ov m pl); callWith pos f first (backTo pos (starEach (e :: es) X.env)) (backToKw pos (keywordEach [] X.env))) := by rfl) :
    PE X (.Call (.Attribute o m apos) (e :: es) [] pos) (tE C W (dMeth c n fn fo fr)) :=
  (pe_meth ho cl hm F hr hb .nil hx ha hst hpl ht).by fun σ H Q ⟨M, Γ, S, g, s, h⟩ => meth_rd (K := X.K) hn g s h
theorem xmeth0 {c : Nat} {pl : Sem Bool} (hn : m ∉ C.an) (ho : PE X o (tE C W fo)) (cl : Cls X.K (C.ga c)) (hm : Meth X.K (C.ga c) m f) (F : FnOk X.prog X.w X.K X.mg X.base CX k f fd ps (spD C n fn)) (hr : Room k X.A) (hb : Binds X.K fd ps []) (hx : Passes CX X W) (ht : eval (.Call (.Attribute o m apos) [] [] pos) X.env = (do let ov ← eval o X.env; standAt apos.atName; let (f, first) ← holding [ov] (getMethod ov m pl); callWith pos f first (backTo pos (starEach [] X.env)) (backToKw pos (keywordEach [] X.env))) := by rfl) :
    PE X (.Call (.Attribute o m apos) [] [] pos) (tE C W (dMeth c n fn fo aNil)) :=
  (pe_meth0 ho cl hm F hr hb .nil hx ht).by fun σ H Q ⟨M, Γ, S, g, s, h⟩ => by
    refine run1 g s h fun M1 d S1 x H1 l1 s1 r1 h1 => ?_
    split at h1
    · rename_i c' fs e
      obtain ⟨g1, h3⟩ := guard_ok h1
      clear h1
      have := Nat.eq_of_beq_eq_true g1
      subst this
      obtain ⟨a, dx, fv, rfl, ha, rf⟩ := ins_of s1 r1 e
      refine ⟨a, dx, fv, rfl, ha, noF_of hn rf, ?_⟩
      have h2 : GoodE C M1 (guard (lenIs n [d]) (fn [d] S1)) Q W := h3
      obtain ⟨g2, h2⟩ := guard_ok h2
      exact ⟨M1, S1, [d], lenIs_ok g2, s1, .cons r1 .nil, h2⟩
    · exact h1.elim
def ifNon (r : D) (q : Res D) : Res D := match r with
  | .non => q
  | _ => .bad
def dMake (c n : Nat) (f : List D → Sto → Res D) (fr : DA) : DE := fun Γ S => (fr Γ S).bind fun ds S1 => guard (lenIs n (.ref S1.nx :: ds)) ((f (.ref S1.nx :: ds) (S1.new (.ins c []))).bind fun r S2 => ifNon r (.ok (.ref S1.nx) S2))
theorem make_rd {c : Nat} {M : Wd} {S : Sto} {H : Hp} {Q : VK} {ds : List D} {vs : List V} {x dx : Addr} (s : Sim C M S H) (r : RepL C M ds vs) (hx : H x = none) (hd : H dx = none) (ne : dx ≠ x)
    (h : GoodE C M (guard (lenIs n (.ref S.nx :: ds)) ((fn (.ref S.nx :: ds) (S.new (.ins c []))).bind fun r S2 => ifNon r (.ok (.ref S.nx) S2))) Q W) :
    spD C n fn (.ref x :: (vs ++ [])) (upd (upd H dx (.own x)) x (.ins (C.ga c) dx [])) (fun v H2 => v = .non ∧ Q (.ref x) H2) W := by
  obtain ⟨g, h⟩ := guard_ok h
  have l1 : M.le (M.lay dx (.own x)) := Wd.lay_le (s.free hd)
  have s1 : Sim C (M.lay dx (.own x)) S (upd H dx (.own x)) := s.lay hd
  have hx1 : upd H dx (.own x) x = none := by rw [upd_ne ne.symm]; exact hx
  have l2 : (M.lay dx (.own x)).le ((M.lay dx (.own x)).bind S.nx x) := Wd.bind_le s1
  have s2 := s1.bindNew (m := .ins c []) (o := .ins (C.ga c) dx []) hx1 ⟨dx, [], rfl, .nil⟩
  have l := l1.trans l2
  have hmu : ((M.lay dx (.own x)).bind S.nx x).mu S.nx = some x := if_pos rfl
  rw [List.append_nil]
  refine ⟨_, _, .ref S.nx :: ds, lenIs_ok g, s2, .cons (.ref hmu) (r.mono l), ?_⟩
  have h := GoodE.mono l h
  cases e : fn (.ref S.nx :: ds) (S.new (.ins c [])) with
  | bad => rw [e] at h; exact h
  | exc c' fs S3 => rw [e] at h; exact h
  | ok d S3 =>
    rw [e] at h
    intro M' v H' l' s' r'
    have h : GoodE C _ (ifNon d (.ok (.ref S.nx) S3)) Q W := h
    unfold ifNon at h
    split at h
    · cases r'
      exact ⟨rfl, h M' _ H' l' s' (.ref (l'.2.1 _ _ hmu))⟩
    · exact h.elim
theorem xmake {c : Nat} {fI : Addr} (Mk' : Mk X.K (C.ga c) fI) (F : FnOk X.prog X.w X.K X.mg X.base CX k fI fd ps (spD C n fn)) (hr : Room (k + 1) X.A) (hg : Gl X x) (hm : X.mg x = some (.ref (C.ga c))) (hb : Binds X.K fd ps []) (hx : Passes CX X W)
    (ha : PA X (e :: es) (tA C W fr)) (hdb : (x == ("__debug__" : Str)) = false := by decide) (he : starEach (e :: es) X.env = (false, eval e X.env) :: starEach es X.env := by rfl) (hpl : (backTo pos (starEach es X.env)).any (·.1) = false := by rfl) :
    PE X (.Call (.Name x p) (e :: es) [] pos) (tE C W (dMake c n fn fr)) :=
  (pe_make Mk' F hr hg hm hb .nil hx ha hdb he hpl).by fun σ H Q ⟨M, Γ, S, g, s, h⟩ => runA g s h fun M1 ds S1 vs H1 l1 s1 r1 h1 => fun y dx hy hd ne => make_rd s1 r1 hy hd ne h1
theorem xmake0 {c : Nat} {fI : Addr} (Mk' : Mk X.K (C.ga c) fI) (F : FnOk X.prog X.w X.K X.mg X.base CX k fI fd ps (spD C n fn)) (hr : Room (k + 1) X.A) (hg : Gl X x) (hm : X.mg x = some (.ref (C.ga c))) (hb : Binds X.K fd ps []) (hx : Passes CX X W)
    (hdb : (x == ("__debug__" : Str)) = false := by decide) : PE X (.Call (.Name x p) [] [] pos) (tE C W (dMake c n fn aNil)) :=
  (pe_make0 Mk' F hr hg hm hb .nil hx hdb).by fun σ H Q ⟨M, Γ, S, g, s, h⟩ => fun y dx hy hd ne => make_rd (n := n) (ds := []) (vs := []) s .nil hy hd ne h
end

/-! ### built-in calls by data -/
def CaD (X : Cx) (C : Cfg) (W : XK) (f : Value) (g : List D → Sto → Res D) : Prop :=
  ∃ r, CallR X f r ∧ ∀ M S H ds vs Q, Sim C M S H → RepL C M ds vs → GoodE C M (g ds S) Q W → r vs H Q
def dCB (g : List D → Sto → Res D) (fr : DA) : DE := fun Γ S => (fr Γ S).bind g
section
variable {X : Cx} {C : Cfg} {W : XK} {g : List D → Sto → Res D} {x : Str} {p pos : Pos} {e : Expr} {es : List Expr} {fr : DA} {id T : String}
theorem xcb (hc : CaD X C W (.builtin id) g) (hg : Gl X x) (hm : X.mg x = none) (hv : bootBuiltins x = some (.builtin id)) (ha : PA X (e :: es) (tA C W fr)) (hn : x ≠ "__name__" := by decide) (hdb : (x == ("__debug__" : Str)) = false := by decide)
    (he : starEach (e :: es) X.env = (false, eval e X.env) :: starEach es X.env := by rfl) (hpl : (backTo pos (starEach es X.env)).any (·.1) = false := by rfl) : PE X (.Call (.Name x p) (e :: es) [] pos) (tE C W (dCB g fr)) := by
  obtain ⟨r, hr, k⟩ := hc
  exact (pe_callB hr hg hm hv ha hn hdb he hpl).by fun σ H Q ⟨M, Γ, S, g, s, h⟩ => runA g s h fun M1 ds S1 vs H1 l1 s1 r1 h1 => k M1 S1 H1 ds vs Q s1 r1 h1
theorem xct (hc : CaD X C W (.type T) g) (hg : Gl X x) (hm : X.mg x = none) (hv : bootBuiltins x = some (.type T)) (ha : PA X (e :: es) (tA C W fr)) (hn : x ≠ "__name__" := by decide) (hdb : (x == ("__debug__" : Str)) = false := by decide)
    (he : starEach (e :: es) X.env = (false, eval e X.env) :: starEach es X.env := by rfl) (hpl : (backTo pos (starEach es X.env)).any (·.1) = false := by rfl) : PE X (.Call (.Name x p) (e :: es) [] pos) (tE C W (dCB g fr)) := by
  obtain ⟨r, hr, k⟩ := hc
  exact (pe_callTy hr hg hm hv ha hn hdb he hpl).by fun σ H Q ⟨M, Γ, S, g, s, h⟩ => runA g s h fun M1 ds S1 vs H1 l1 s1 r1 h1 => k M1 S1 H1 ds vs Q s1 r1 h1
end
end Pd

namespace Pd
open PySem PySem.Spec L2

/-! ### statements -/
abbrev WS (W : XK) : WX := fun c d _ H => W c d H
/-- an expression's result, then a statement's -/
def Res.then {α : Type} (r : Res α) (f : α → Sto → SRes) : SRes := match r with
  | .ok a S => f a S
  | .exc c fs S => .exc c fs S
  | .bad => .bad
def SRes.then (r : SRes) (f : Ga → Sto → SRes) : SRes := match r with
  | .nx Γ S => f Γ S
  | r => r
section
variable {C : Cfg} {W : XK} {M M' : Wd} {Γ : Ga} {S : Sto} {σ : St} {H : Hp} {E : Ends}
theorem run1S {fa : DE} {f : D → Sto → SRes} {K1 : V → Hp → Prop} (g : SimG C M Γ σ) (s : Sim C M S H) (h : GoodS C (WS W) M ((fa Γ S).then f) E)
    (k : ∀ M' a S' x H', M.le M' → Sim C M' S' H' → Rep C M' a x → GoodS C (WS W) M' (f a S') E → K1 x H') : tE C W fa σ H K1 := by
  refine ⟨M, Γ, S, g, s, ?_⟩
  cases ea : fa Γ S with
  | bad => rw [ea] at h; exact h
  | exc c fs S1 => rw [ea] at h; exact fun M' c' d H' l s' r => h M' σ c' d H' l s' r
  | ok a S1 =>
    rw [ea] at h
    intro M1 x H1 l1 s1 r1
    exact k M1 a S1 x H1 l1 s1 r1 (GoodS.mono l1 h)
theorem runTS {ft : DT} {f : Bool → Sto → SRes} {K1 : Bool → Hp → Prop} (g : SimG C M Γ σ) (s : Sim C M S H) (h : GoodS C (WS W) M ((ft Γ S).then f) E)
    (k : ∀ M' a S' H', M.le M' → Sim C M' S' H' → GoodS C (WS W) M' (f a S') E → K1 a H') : tT C W ft σ H K1 := by
  refine ⟨M, Γ, S, g, s, ?_⟩
  cases ea : ft Γ S with
  | bad => rw [ea] at h; exact h
  | exc c fs S1 => rw [ea] at h; exact fun M' c' d H' l s' r => h M' σ c' d H' l s' r
  | ok a S1 =>
    rw [ea] at h
    intro M1 H1 l1 s1
    exact k M1 a S1 H1 l1 s1 (GoodS.mono l1 h)
theorem GoodS.nxt {Γ : Ga} (h : GoodS C (WS W) M (.nx Γ S) E) (g : SimG C M Γ σ) (s : Sim C M S H) : E.nx σ H := h M σ H (.refl M) g s
theorem SimG.set (g : SimG C M Γ σ) {d : D} {v : V} (r : Rep C M d v) (i : Nat) : SimG C M (Γ.set i (some d)) (σ.set i (some v)) := by
  refine ⟨by simp [g.1], fun j e h => ?_⟩
  by_cases hj : i = j
  · subst hj
    by_cases hi : i < Γ.length
    · rw [List.getElem?_set_self hi] at h
      cases h
      exact ⟨v, List.getElem?_set_self (by rw [← g.1]; exact hi), r⟩
    · rw [List.getElem?_eq_none (by simpa using hi)] at h; cases h
  · rw [List.getElem?_set_ne hj] at h ⊢
    exact g.2 j e h
end
section
variable {X : Cx} {C : Cfg} {W : XK} {f f' : DS} {fa fb : DE} {ft : DT} {st : Stmt} {rest a b : List Stmt} {e c : Expr} {pos : Pos}
def sNil : DS := fun Γ S => .nx Γ S
def sSeq (f g : DS) : DS := fun Γ S => (f Γ S).then g
theorem ynil : PSs X [] (tS C W sNil) := pss_nil.by fun D σ H ⟨M, Γ, S, g, s, h⟩ => h.nxt g s
/-- a statement with more behind it -/
theorem tS_seq {M : Wd} {Γ : Ga} {S : Sto} {σ : St} {H : Hp} {E : Ends} (g : SimG C M Γ σ) (s : Sim C M S H) (h : GoodS C (WS W) M (sSeq f f' Γ S) E) : tS C W f { E with nx := fun σ H => tS C W f' E σ H } σ H := by
  refine ⟨M, Γ, S, g, s, ?_⟩
  have h : GoodS C (WS W) M ((f Γ S).then f') E := h
  cases e : f Γ S with
  | nx Γ1 S1 => rw [e] at h; exact fun M1 σ1 H1 l1 g1 s1 => ⟨M1, Γ1, S1, g1, s1, GoodS.mono l1 h⟩
  | rt d S1 => rw [e] at h; exact h
  | bk Γ1 S1 => rw [e] at h; exact h
  | ct Γ1 S1 => rw [e] at h; exact h
  | exc c fs S1 => rw [e] at h; exact h
  | bad => rw [e] at h; exact h
theorem ycons (h1 : PS X st (tS C W f)) (h2 : PSs X rest (tS C W f')) : PSs X (st :: rest) (tS C W (sSeq f f')) := (pss_cons h1 h2).by fun D σ H ⟨M, Γ, S, g, s, h⟩ => tS_seq g s h
theorem yone (h1 : PS X st (tS C W f)) : PSs X [st] (tS C W f) := pss_one h1
def sBad : DS := fun _ _ => .bad
theorem ybad : PS X st (tS C W sBad) := ⟨fun _ _ _ _ _ _ ⟨_, _, _, _, _, h⟩ => False.elim h⟩
theorem ysbad {sts : List Stmt} : PSs X sts (tS C W sBad) := ⟨fun _ _ _ _ _ _ ⟨_, _, _, _, _, h⟩ => False.elim h⟩
theorem xbad : PE X e (tE C W (fun _ _ => .bad)) := ⟨fun _ _ _ _ _ _ ⟨_, _, _, _, _, h⟩ => False.elim h⟩
theorem ypass : PS X (.Pass pos) (tS C W sNil) := ps_pass.by fun D σ H ⟨M, Γ, S, g, s, h⟩ => h.nxt g s
theorem ydoc {x j pos pos'} : PS X (.Expr (.Constant (.str x) j pos) pos') (tS C W sNil) := ps_doc.by fun D σ H ⟨M, Γ, S, g, s, h⟩ => h.nxt g s
theorem ybreak : PS X (.Break pos) (tS C W (fun Γ S => .bk Γ S)) := ps_break.by fun D σ H ⟨M, Γ, S, g, s, h⟩ => h M σ H (.refl M) g s
theorem ycont : PS X (.Continue pos) (tS C W (fun Γ S => .ct Γ S)) := ps_continue.by fun D σ H ⟨M, Γ, S, g, s, h⟩ => h M σ H (.refl M) g s
def sDrop (fa : DE) : DS := fun Γ S => (fa Γ S).then fun _ S1 => .nx Γ S1
theorem ydrop (he : PE X e (tE C W fa)) (hs : swapsWith e none pos.line X.env = pure false := by rfl) : PS X (.Expr e pos) (tS C W (sDrop fa)) :=
  (ps_expr he hs).by fun D σ H ⟨M, Γ, S, g, s, h⟩ => run1S g s h fun M1 d S1 x H1 l1 s1 r1 h1 => h1.nxt (g.mono l1) s1
def sRet (fa : DE) : DS := fun Γ S => (fa Γ S).then fun d S1 => .rt d S1
theorem yret (he : PE X e (tE C W fa)) : PS X (.Return (some e) pos) (tS C W (sRet fa)) :=
  (ps_ret he).by fun D σ H ⟨M, Γ, S, g, s, h⟩ => run1S g s h fun M1 d S1 x H1 l1 s1 r1 h1 => h1 M1 x H1 (.refl M1) s1 r1
theorem yretN : PS X (.Return none pos) (tS C W (fun _ S => .rt .non S)) := ps_retN.by fun D σ H ⟨M, Γ, S, g, s, h⟩ => h M .non H (.refl M) s .non
def sIf (ft : DT) (f f' : DS) : DS := fun Γ S => (ft Γ S).then fun k S1 => match k with
  | true => f Γ S1
  | false => f' Γ S1
theorem yif (hc : PT X c (tT C W ft)) (ha : PSs X a (tS C W f)) (hb : PSs X b (tS C W f')) : PS X (.If c a b pos) (tS C W (sIf ft f f')) :=
  (ps_if hc ha hb).by fun D σ H ⟨M, Γ, S, g, s, h⟩ => runTS g s h fun M1 k S1 H1 l1 s1 h1 => by
    cases k with
    | true => exact iteT ⟨M1, Γ, S1, g.mono l1, s1, h1⟩
    | false => exact iteF ⟨M1, Γ, S1, g.mono l1, s1, h1⟩

/-! ### targets -/
/-- a target by data; vs: the slots it may change -/
def TgD (X : Cx) (C : Cfg) (tg : Expr) (vs : List Nat) (f : D → Ga → Sto → Option Ga) : Prop :=
  ∃ t : TG, PG X tg t ∧ ∀ (M : Wd) (S : Sto) (Γ Γ' : Ga) (σ : St) (H : Hp) (d : D) (v : V) (Q : St → Hp → Prop), SimG C M Γ σ → Sim C M S H → Rep C M d v → f d Γ S = some Γ' →
    (∀ σ', SimG C M Γ' σ' → wipe σ' vs = wipe σ vs → Q σ' H) → t v σ H Q
def gN (i : Nat) : D → Ga → Sto → Option Ga := fun d Γ _ => some (Γ.set i (some d))
theorem wipe_at : ∀ (vs : List Nat) (σ : St) (i : Nat), (wipe σ vs)[i]? = if i < σ.length then (if i ∈ vs then some none else σ[i]?) else none
  | [], σ, i => by
    show σ[i]? = _
    by_cases h : i < σ.length
    · rw [if_pos h, if_neg (by simp)]
    · rw [if_neg h, List.getElem?_eq_none (by omega)]
  | v :: vs, σ, i => by
    show ((wipe σ vs).set v none)[i]? = _
    by_cases h : i < σ.length
    · rw [if_pos h]
      by_cases hv : v = i
      · subst hv
        rw [List.getElem?_set_self (by rw [wipe_length]; exact h), if_pos (by simp)]
      · rw [List.getElem?_set_ne hv, wipe_at vs σ i, if_pos h]
        by_cases hm : i ∈ vs
        · rw [if_pos hm, if_pos (List.mem_cons_of_mem _ hm)]
        · rw [if_neg hm, if_neg (by simp only [List.mem_cons, not_or]; exact ⟨fun z => hv z.symm, hm⟩)]
    · rw [if_neg h, List.getElem?_eq_none (by rw [List.length_set, wipe_length]; omega)]
theorem wipe_set {vs : List Nat} {σ : St} {i : Nat} {x : Option V} (h : i ∈ vs) : wipe (σ.set i x) vs = wipe σ vs := by
  refine List.ext_getElem? fun j => ?_; rw [wipe_at, wipe_at, List.length_set]
  by_cases hj : j < σ.length
  · rw [if_pos hj, if_pos hj]
    by_cases hm : j ∈ vs
    · rw [if_pos hm, if_pos hm]
    · rw [if_neg hm, if_neg hm, List.getElem?_set_ne (fun z => hm (by rw [← z]; exact h))]
  · rw [if_neg hj, if_neg hj]
theorem wipe_wipe (σ : St) (vs : List Nat) : wipe (wipe σ vs) vs = wipe σ vs := by
  refine List.ext_getElem? fun j => ?_; rw [wipe_at vs (wipe σ vs) j, wipe_at vs σ j, wipe_length]
  by_cases hj : j < σ.length
  · by_cases hm : j ∈ vs
    · simp [hj, hm]
    · simp [hj, hm]
  · simp [hj]
theorem zname {i : Nat} {x : Str} {vs : List Nat} (hN : X.N.Nodup) (hi : X.N[i]? = some x) (hx : Loc X.env.scope x) (hv : i ∈ vs) (hf : X.fn x = true ∨ X.env.scope.names.lookup x = some .local := by first | exact .inl rfl | exact .inr rfl | assumption) : TgD X C (.Name x pos) vs (gN i) :=
  ⟨gName i, pg_name hN hi hx hf, fun M S Γ Γ' σ H d v Q g s r e q => by
    cases e
    exact q _ (g.set r i) (wipe_set hv)⟩
/-- several targets -/
def TgDs (X : Cx) (C : Cfg) (ts : List Expr) (vs : List Nat) (f : List D → Ga → Sto → Option Ga) : Prop :=
  ∃ t : TGs, PGs X ts t ∧ ∀ (M : Wd) (S : Sto) (Γ Γ' : Ga) (σ : St) (H : Hp) (ds : List D) (xs : List V) (Q : St → Hp → Prop), SimG C M Γ σ → Sim C M S H → RepL C M ds xs → f ds Γ S = some Γ' →
    (∀ σ', SimG C M Γ' σ' → wipe σ' vs = wipe σ vs → Q σ' H) → t xs σ H Q
def gNil : List D → Ga → Sto → Option Ga := fun ds Γ _ => match ds with
  | [] => some Γ
  | _ => none
def gCons (f : D → Ga → Sto → Option Ga) (fr : List D → Ga → Sto → Option Ga) : List D → Ga → Sto → Option Ga := fun ds Γ S => match ds with
  | d :: r => (match f d Γ S with
    | some Γ1 => fr r Γ1 S
    | none => none)
  | [] => none
theorem zsnil {vs : List Nat} : TgDs X C [] vs gNil := ⟨L2.gNil, pgs_nil, fun M S Γ Γ' σ H ds xs Q g s r e q => by
  unfold gNil at e
  split at e
  · cases e; exact ⟨r.nil_inv, q σ g rfl⟩
  · cases e⟩
theorem zscons {vs : List Nat} {e : Expr} {es : List Expr} {f : D → Ga → Sto → Option Ga} {fr : List D → Ga → Sto → Option Ga} (h1 : TgD X C e vs f) (h2 : TgDs X C es vs fr)
    (hs : (assignEach (e :: es) X.env).map (·.2) = assign e X.env :: (assignEach es X.env).map (·.2) := by rfl) : TgDs X C (e :: es) vs (gCons f fr) := by
  obtain ⟨t, ht, k⟩ := h1
  obtain ⟨u, hu, k2⟩ := h2
  refine ⟨L2.gCons t u, pgs_cons ht hu hs, fun M S Γ Γ' σ H ds xs Q g s r e q => ?_⟩
  unfold gCons at e
  split at e
  · rename_i d ds'
    split at e
    · rename_i Γ1 e1
      obtain ⟨v, us, rfl, r1, r2⟩ := r.cons_inv
      refine ⟨v, us, rfl, k M S Γ Γ1 σ H d v _ g s r1 e1 fun σ1 g1 w1 => ?_⟩
      exact k2 M S Γ1 Γ' σ1 H ds' us Q g1 s r2 e fun σ2 g2 w2 => q σ2 g2 (w2.trans w1)
    · cases e
  · cases e
def gTp (n : Nat) (fr : List D → Ga → Sto → Option Ga) : D → Ga → Sto → Option Ga := fun d Γ S => match d with
  | .tup ds => (match lenIs n ds with
    | true => fr ds Γ S
    | false => none)
  | _ => none
theorem ztup {vs : List Nat} {es : List Expr} {k n : Nat} {fr : List D → Ga → Sto → Option Ga} (hK : X.K = C.K) (hc : X.calm = true) (h : TgDs X C es vs fr) (hn : (assignEach es X.env).length = n := by rfl) (hst : (assignEach es X.env).findIdx? (·.1) = none := by rfl) : TgD X C (.Tuple es k pos) vs (gTp n fr) := by
  obtain ⟨t, ht, k1⟩ := h
  refine ⟨gTup X.K n t, pg_tup hc ht hn hst, fun M S Γ Γ' σ H d v Q g s r e q => ?_⟩
  unfold gTp at e
  split at e
  · rename_i ds
    split at e
    · rename_i el
      obtain ⟨a, xs, rfl, ha, rl⟩ := tup_of s r rfl
      exact ⟨a, xs, rfl, hK ▸ ha, by rw [← rl.1]; exact lenIs_ok el, k1 M S Γ Γ' σ H ds xs Q g s rl e q⟩
    · cases e
  · cases e
/-- target = e -/
def sAsg (fa : DE) (gt : D → Ga → Sto → Option Ga) : DS := fun Γ S => (fa Γ S).then fun d S1 => match gt d Γ S1 with
  | some Γ1 => .nx Γ1 S1
  | none => .bad
theorem yasg {tg : Expr} {vs : List Nat} {gt : D → Ga → Sto → Option Ga} (he : PE X e (tE C W fa)) (hg : TgD X C tg vs gt) (hs : swapsWithSole [tg] e pos.line X.env = pure false := by rfl) (hw : swappedStores [tg] e X.env = pure none := by rfl)
    (h1 : (assignEach [tg] X.env).map (·.2) = [assign tg X.env] := by rfl) : PS X (.Assign [tg] e pos) (tS C W (sAsg fa gt)) := by
  obtain ⟨t, ht, k⟩ := hg
  exact (ps_asg he ht hs hw h1).by fun D σ H ⟨M, Γ, S, g, s, h⟩ => run1S g s h fun M1 d S1 x H1 l1 s1 r1 h1 => by
    split at h1
    · rename_i Γ1 e1
      exact k M1 S1 Γ Γ1 σ H1 d x _ (g.mono l1) s1 r1 e1 fun σ' g' _ => h1.nxt g' s1
    · exact h1.elim
def sSet (fa : DE) (i : Nat) : DS := fun Γ S => (fa Γ S).then fun d S1 => .nx (Γ.set i (some d)) S1
theorem yset {i : Nat} {x : Str} {pos' : Pos} (hN : X.N.Nodup) (hi : X.N[i]? = some x) (hx : Loc X.env.scope x) (he : PE X e (tE C W fa)) (hs : swapsWith e (some (.Name x pos')) pos.line X.env = pure false := by rfl) (hf : X.fn x = true ∨ X.env.scope.names.lookup x = some .local := by first | exact .inl rfl | exact .inr rfl | assumption) : PS X (.Assign [.Name x pos'] e pos) (tS C W (sSet fa i)) :=
  (ps_set hN hi hx he hs hf).by fun D σ H ⟨M, Γ, S, g, s, h⟩ => run1S g s h fun M1 d S1 x H1 l1 s1 r1 h1 => h1.nxt ((g.mono l1).set r1 i) s1
/-- a, b = x, y -/
def sPar (fa fb : DE) (i j : Nat) : DS := fun Γ S => (fa Γ S).then fun d S1 => (fb Γ S1).then fun e S2 => .nx ((Γ.set i (some d)).set j (some e)) S2
theorem runAS {C : Cfg} {M : Wd} {Γ : Ga} {S : Sto} {σ : St} {H : Hp} {E : Ends} {fr : DA} {f : List D → Sto → SRes} {K1 : List V → Hp → Prop} (g : SimG C M Γ σ) (s : Sim C M S H) (h : GoodS C (WS W) M ((fr Γ S).then f) E)
    (k : ∀ M' a S' x H', M.le M' → Sim C M' S' H' → RepL C M' a x → GoodS C (WS W) M' (f a S') E → K1 x H') : tA C W fr σ H K1 := by
  refine ⟨M, Γ, S, g, s, ?_⟩
  cases ea : fr Γ S with
  | bad => rw [ea] at h; exact h
  | exc c fs S1 => rw [ea] at h; exact fun M' c' d H' l s' r => h M' σ c' d H' l s' r
  | ok a S1 =>
    rw [ea] at h
    intro M1 x H1 l1 s1 r1
    exact k M1 a S1 x H1 l1 s1 r1 (GoodS.mono l1 h)
def sParA (fr : DA) (i j : Nat) : DS := fun Γ S => (fr Γ S).then fun ds S1 => match ds with
  | [d, e] => .nx ((Γ.set i (some d)).set j (some e)) S1
  | _ => .bad
theorem ypar {i j : Nat} {x y : Str} {a b : Expr} {fr : DA} {px py pt : Pos} {kt k2 pt2} (hc : X.calm = true) (hN : X.N.Nodup) (hi : X.N[i]? = some x) (hj : X.N[j]? = some y) (hij : i ≠ j)
    (hx : X.env.scope.names.lookup x = some .local) (hy : X.env.scope.names.lookup y = some .local) (ha : PA X [a, b] (tA C W fr)) (hw : swappedStores [.Tuple [.Name x px, .Name y py] kt pt] (.Tuple [a, b] k2 pt2) X.env = pure (some [x, y])) (hs : swapsWithSole [.Tuple [.Name x px, .Name y py] kt pt] (.Tuple [a, b] k2 pt2) pos.line X.env = pure false := by rfl) :
    PS X (.Assign [.Tuple [.Name x px, .Name y py] kt pt] (.Tuple [a, b] k2 pt2) pos) (tS C W (sParA fr i j)) :=
  (ps_par hc hN hi hj hij hx hy ha hw hs).by fun D σ H ⟨M, Γ, S, g, s, h⟩ => runAS g s h fun M1 ds S1 xs H1 l1 s1 r1 h1 => by
    split at h1
    · rename_i d e
      obtain ⟨v, us, rfl, q1, r2⟩ := r1.cons_inv
      obtain ⟨u, us', rfl, q2, r3⟩ := r2.cons_inv
      rw [r3.nil_inv]
      exact ⟨v, u, rfl, h1.nxt (((g.mono l1).set q1 i).set q2 j) s1⟩
    · exact h1.elim
end
end Pd

namespace Pd
open PySem PySem.Spec L2

/-! ### what is walked -/
/-- the iterator J gives the data ds, from whatever state behind M -/
def Gives (C : Cfg) (M : Wd) (J : It) (ds : List D) : Prop :=
  ∀ M' S H, M.le M' → Sim C M' S H → ∀ i : Nat, (ds.length ≤ i → J.stop i H) ∧ ∀ d, ds[i]? = some d → J.go i H ∧ ∀ x H', J.yld i H x H' → ∃ M'', M'.le M'' ∧ Sim C M'' S H' ∧ Rep C M'' d x
theorem Gives.mono {C : Cfg} {M M' : Wd} {J : It} {ds : List D} (l : M.le M') (g : Gives C M J ds) : Gives C M' J ds := fun M2 S H l2 s => g M2 S H (l.trans l2) s
/-- something that is walked, by data -/
def ItD (X : Cx) (C : Cfg) (W : XK) (tg iter : Expr) (f : DA) : Prop :=
  ∃ wi : TI, PI X tg iter wi ∧ ∀ (M : Wd) (Γ : Ga) (S : Sto) (σ : St) (H : Hp) (R : It → Hp → Prop), SimG C M Γ σ → Sim C M S H →
    (match f Γ S with
      | .ok ds S1 => ∀ M1 H1 J, M.le M1 → Sim C M1 S1 H1 → Gives C M1 J ds → R J H1
      | .exc c fs S1 => ∀ M' cls dd H', M.le M' → Sim C M' S1 H' → RepX C M' H' cls dd c fs → W cls dd H'
      | .bad => False) → wi σ H R
section
variable {X : Cx} {C : Cfg} {W : XK} {tg e iter : Expr} {fa : DE} {fr : DA} {pos p : Pos}
/-- over a list that stands still -/
def iFrz : D → Option (List D)
  | .lst ds => some ds
  | .frl ds => some ds
  | _ => none
def aLst (fa : DE) : DA := fun Γ S => (fa Γ S).bind fun d S1 => match iFrz d with
  | some ds => .ok ds S1
  | none => .bad
def aTup (fa : DE) : DA := fun Γ S => (fa Γ S).bind fun d S1 => match tupV d with
  | some ds => .ok ds S1
  | none => .bad
theorem gives_lst {M : Wd} {d : D} {ds : List D} {a : Addr} (r : Rep C M d (.ref a)) (h : iFrz d = some ds) : Gives C M (Itl C.K a) ds := by
  intro M' S H l s i
  obtain ⟨b, vs, e, hs, rl⟩ : ∃ b vs, V.ref a = .ref b ∧ SqL C.K H b vs ∧ RepL C M' ds vs := lst_of s (r.mono l) (by cases d <;> simp [iFrz] at h <;> simp [lstV, h])
  cases e
  refine ⟨fun hi => ⟨vs, hs, by rw [← rl.1]; exact hi⟩, fun d' hd => ?_⟩
  obtain ⟨v, hv, rv⟩ := rl.get hd
  refine ⟨⟨vs, v, hs, hv⟩, fun x H' y => ?_⟩
  obtain ⟨rfl, y⟩ := y
  have := y vs hs
  rw [hv] at this; cases this
  exact ⟨M', .refl M', s, rv⟩
theorem gives_tup {M : Wd} {d : D} {ds : List D} {a : Addr} (r : Rep C M d (.ref a)) (h : tupV d = some ds) : Gives C M (Itt C.K a) ds := by
  intro M' S H l s i
  obtain ⟨b, vs, e, hs, rl⟩ := tup_of s (r.mono l) h
  cases e
  refine ⟨fun hi => ⟨vs, hs, by rw [← rl.1]; exact hi⟩, fun d' hd => ?_⟩
  obtain ⟨v, hv, rv⟩ := rl.get hd
  refine ⟨⟨vs, v, hs, hv⟩, fun x H' y => ?_⟩
  obtain ⟨rfl, y⟩ := y
  have := y vs hs
  rw [hv] at this; cases this
  exact ⟨M', .refl M', s, rv⟩
/-- from an expression's value to the iterator -/
theorem run1I {M : Wd} {Γ : Ga} {S : Sto} {σ : St} {H : Hp} {f : D → Sto → Res (List D)} {R : It → Hp → Prop} {K1 : V → Hp → Prop} (g : SimG C M Γ σ) (s : Sim C M S H)
    (h : match (fa Γ S).bind f with
      | .ok ds S1 => ∀ M1 H1 J, M.le M1 → Sim C M1 S1 H1 → Gives C M1 J ds → R J H1
      | .exc c fs S1 => ∀ M' cls dd H', M.le M' → Sim C M' S1 H' → RepX C M' H' cls dd c fs → W cls dd H'
      | .bad => False)
    (k : ∀ M' a S' x H', M.le M' → Sim C M' S' H' → Rep C M' a x → (match f a S' with
      | .ok ds S1 => ∀ M1 H1 J, M'.le M1 → Sim C M1 S1 H1 → Gives C M1 J ds → R J H1
      | .exc c fs S1 => ∀ M2 cls dd H', M'.le M2 → Sim C M2 S1 H' → RepX C M2 H' cls dd c fs → W cls dd H'
      | .bad => False) → K1 x H') : tE C W fa σ H K1 := by
  refine ⟨M, Γ, S, g, s, ?_⟩
  cases ea : fa Γ S with
  | bad => rw [ea] at h; exact h
  | exc c fs S1 => rw [ea] at h; exact h
  | ok a S1 =>
    rw [ea] at h
    intro M1 x H1 l1 s1 r1
    refine k M1 a S1 x H1 l1 s1 r1 ?_
    have h : (match f a S1 with
      | .ok ds S1 => ∀ M1 H1 J, M.le M1 → Sim C M1 S1 H1 → Gives C M1 J ds → R J H1
      | .exc c fs S1 => ∀ M' cls dd H', M.le M' → Sim C M' S1 H' → RepX C M' H' cls dd c fs → W cls dd H'
      | .bad => False) := h
    cases ef : f a S1 with
    | bad => rw [ef] at h; exact h
    | exc c fs S2 => rw [ef] at h; exact fun M2 cls dd H' l => h M2 cls dd H' (l1.trans l)
    | ok ds S2 => rw [ef] at h; exact fun M2 H2 J l => h M2 H2 J (l1.trans l)
theorem wlst (hK : X.K = C.K) (he : PE X e (tE C W fa)) : ItD X C W tg e (aLst fa) := by
  refine ⟨_, pi_list he, fun M Γ S σ H R g s h => run1I g s h fun M1 d S1 x H1 l1 s1 r1 h1 => ?_⟩
  split at h1
  · rename_i ds S2 e1
    split at e1
    · rename_i ds' ei
      cases e1
      obtain ⟨a, vs, rfl, hs, rl⟩ : ∃ a vs, x = .ref a ∧ SqL C.K H1 a vs ∧ RepL C M1 ds vs := lst_of s1 r1 (by cases d <;> simp [iFrz] at ei <;> simp [lstV, ei])
      exact ⟨a, rfl, ⟨vs, hK ▸ hs⟩, h1 M1 H1 _ (.refl M1) s1 (by rw [hK]; exact gives_lst r1 ei)⟩
    · cases e1
  · rename_i c fs S2 e1
    split at e1 <;> cases e1
  · exact h1.elim
theorem wtup (hK : X.K = C.K) (he : PE X e (tE C W fa)) : ItD X C W tg e (aTup fa) := by
  refine ⟨_, pi_tup he, fun M Γ S σ H R g s h => run1I g s h fun M1 d S1 x H1 l1 s1 r1 h1 => ?_⟩
  split at h1
  · rename_i ds S2 e1
    split at e1
    · rename_i ds' ei
      cases e1
      obtain ⟨a, vs, rfl, hs, rl⟩ := tup_of s1 r1 ei
      exact ⟨a, rfl, ⟨vs, hK ▸ hs⟩, h1 M1 H1 _ (.refl M1) s1 (by rw [hK]; exact gives_tup r1 ei)⟩
    · cases e1
  · rename_i c fs S2 e1
    split at e1 <;> cases e1
  · exact h1.elim
/-- lo, lo + 1, .. -/
def upto (lo : Int) : Nat → List D
  | 0 => []
  | n + 1 => .int lo :: upto (lo + 1) n
theorem upto_get : ∀ (n i : Nat) (lo : Int), (upto lo n)[i]? = if i < n then some (.int (lo + i)) else none
  | 0, i, lo => by simp [upto]
  | n + 1, 0, lo => by simp [upto]
  | n + 1, i + 1, lo => by
    show (upto (lo + 1) n)[i]? = _
    rw [upto_get n i (lo + 1)]
    by_cases h : i < n
    · rw [if_pos h, if_pos (show _ by omega)]
      congr 2
      push_cast
      omega
    · rw [if_neg h, if_neg (show ¬ _ by omega)]
theorem upto_len : ∀ (n : Nat) (lo : Int), (upto lo n).length = n
  | 0, _ => rfl
  | n + 1, lo => by show (upto (lo + 1) n).length + 1 = _; rw [upto_len]
theorem gives_range {M : Wd} {lo : Int} {n : Nat} : Gives C M (Itr lo n) (upto lo n) := by
  intro M' S H l s i
  refine ⟨fun hi => by rw [upto_len] at hi; exact hi, fun d hd => ?_⟩
  rw [upto_get] at hd
  split at hd
  · rename_i h
    cases hd
    refine ⟨h, fun x H' y => ?_⟩
    obtain ⟨rfl, rfl⟩ := y
    exact ⟨M', .refl M', s, .int _⟩
  · cases hd
/-- within 62 bits -/
def mid (i : Int) : Bool := Nat.blt i.natAbs 1000000
theorem mid_ok {i : Int} (h : mid i = true) : -(2 ^ 62) ≤ i ∧ i < 2 ^ 62 := by
  have h1 : i.natAbs < 1000000 := Nat.le_of_ble_eq_true h
  constructor <;> omega
theorem runAI {M : Wd} {Γ : Ga} {S : Sto} {σ : St} {H : Hp} {f : List D → Sto → Res (List D)} {R : It → Hp → Prop} {K1 : List V → Hp → Prop} (g : SimG C M Γ σ) (s : Sim C M S H)
    (h : match (fr Γ S).bind f with
      | .ok ds S1 => ∀ M1 H1 J, M.le M1 → Sim C M1 S1 H1 → Gives C M1 J ds → R J H1
      | .exc c fs S1 => ∀ M' cls dd H', M.le M' → Sim C M' S1 H' → RepX C M' H' cls dd c fs → W cls dd H'
      | .bad => False)
    (k : ∀ M' a S' x H', M.le M' → Sim C M' S' H' → RepL C M' a x → (match f a S' with
      | .ok ds S1 => ∀ M1 H1 J, M'.le M1 → Sim C M1 S1 H1 → Gives C M1 J ds → R J H1
      | .exc c fs S1 => ∀ M2 cls dd H', M'.le M2 → Sim C M2 S1 H' → RepX C M2 H' cls dd c fs → W cls dd H'
      | .bad => False) → K1 x H') : tA C W fr σ H K1 := by
  refine ⟨M, Γ, S, g, s, ?_⟩
  cases ea : fr Γ S with
  | bad => rw [ea] at h; exact h
  | exc c fs S1 => rw [ea] at h; exact h
  | ok a S1 =>
    rw [ea] at h
    intro M1 x H1 l1 s1 r1
    refine k M1 a S1 x H1 l1 s1 r1 ?_
    have h : (match f a S1 with
      | .ok ds S1 => ∀ M1 H1 J, M.le M1 → Sim C M1 S1 H1 → Gives C M1 J ds → R J H1
      | .exc c fs S1 => ∀ M' cls dd H', M.le M' → Sim C M' S1 H' → RepX C M' H' cls dd c fs → W cls dd H'
      | .bad => False) := h
    cases ef : f a S1 with
    | bad => rw [ef] at h; exact h
    | exc c fs S2 => rw [ef] at h; exact fun M2 cls dd H' l => h M2 cls dd H' (l1.trans l)
    | ok ds S2 => rw [ef] at h; exact fun M2 H2 J l => h M2 H2 J (l1.trans l)
def rng1 : List D → Sto → Res (List D) := fun ds S => match ds with
  | [.int j] => (match mid j with
    | true => .ok (upto 0 j.toNat) S
    | false => .bad)
  | _ => .bad
def rng2 : List D → Sto → Res (List D) := fun ds S => match ds with
  | [.int i, .int j] => (match mid i && mid j with
    | true => .ok (upto i (j - i).toNat) S
    | false => .bad)
  | _ => .bad
def aBind (fr : DA) (f : List D → Sto → Res (List D)) : DA := fun Γ S => (fr Γ S).bind f
theorem wrng1 {a : Expr} (hg : Gl X "range") (hm : X.mg "range" = none) (ha : PA X [a] (tA C W fr)) (hs : starEach [a] X.env = [(false, eval a X.env)] := by rfl) : ItD X C W tg (.Call (.Name "range" p) [a] [] pos) (aBind fr rng1) := by
  refine ⟨_, pi_range1 hg hm ha hs, fun M Γ S σ H R g s h => runAI g s h fun M1 ds S1 xs H1 l1 s1 r1 h1 => ?_⟩
  unfold rng1 at h1
  split at h1
  · rename_i o S2 e1
    split at e1
    · rename_i j
      split at e1
      · rename_i hj
        cases e1
        obtain ⟨v, us, rfl, q, t⟩ := r1.cons_inv
        rw [t.nil_inv]
        cases q
        obtain ⟨m1, m2⟩ := mid_ok hj
        exact ⟨j, rfl, m1, m2, h1 M1 H1 _ (.refl M1) s1 gives_range⟩
      · cases e1
    · cases e1
  · rename_i c fs S2 e1
    split at e1
    · split at e1 <;> cases e1
    · cases e1
  · exact h1.elim
theorem wrng2 {a b : Expr} (hg : Gl X "range") (hm : X.mg "range" = none) (ha : PA X [a, b] (tA C W fr)) (hs : starEach [a, b] X.env = [(false, eval a X.env), (false, eval b X.env)] := by rfl) (hs2 : starEach [b] X.env = [(false, eval b X.env)] := by rfl) : ItD X C W tg (.Call (.Name "range" p) [a, b] [] pos) (aBind fr rng2) := by
  refine ⟨_, pi_range2 hg hm ha hs hs2, fun M Γ S σ H R g s h => runAI g s h fun M1 ds S1 xs H1 l1 s1 r1 h1 => ?_⟩
  unfold rng2 at h1
  split at h1
  · rename_i o S2 e1
    split at e1
    · rename_i i j
      split at e1
      · rename_i hj
        cases e1
        obtain ⟨v, us, rfl, q, t⟩ := r1.cons_inv
        obtain ⟨v2, us2, rfl, q2, t2⟩ := t.cons_inv
        rw [t2.nil_inv]
        cases q; cases q2
        obtain ⟨g1, g2⟩ := Bool.and_eq_true_iff.mp hj
        obtain ⟨m1, m2⟩ := mid_ok g1
        obtain ⟨m3, m4⟩ := mid_ok g2
        exact ⟨i, j, rfl, ⟨m1, m2, m3, m4⟩, h1 M1 H1 _ (.refl M1) s1 gives_range⟩
      · cases e1
    · cases e1
  · rename_i c fs S2 e1
    split at e1
    · split at e1 <;> cases e1
    · cases e1
  · exact h1.elim
/-- a text, sign by sign -/
def signs : List Nat → List D
  | [] => []
  | c :: r => .str ⟨#[c]⟩ :: signs r
theorem signs_get : ∀ (l : List Nat) (i : Nat), (signs l)[i]? = (l[i]?).map fun c => D.str ⟨#[c]⟩
  | [], i => by simp [signs]
  | c :: r, 0 => by simp [signs]
  | c :: r, i + 1 => by simp [signs, signs_get r i]
theorem signs_len : ∀ l : List Nat, (signs l).length = l.length
  | [] => rfl
  | c :: r => by show (signs r).length + 1 = _; rw [signs_len]; rfl
def aStr (fa : DE) : DA := fun Γ S => (fa Γ S).bind fun d S1 => match d with
  | .str x => .ok (signs x.cps.toList) S1
  | _ => .bad
theorem wstr (he : PE X e (tE C W fa)) : ItD X C W tg e (aStr fa) := by
  refine ⟨_, pi_str he, fun M Γ S σ H R g s h => run1I g s h fun M1 d S1 x H1 l1 s1 r1 h1 => ?_⟩
  split at h1
  · rename_i ds S2 e1
    split at e1
    · rename_i z
      cases e1
      cases r1
      refine ⟨z, rfl, h1 M1 H1 _ (.refl M1) s1 ?_⟩
      intro M' S H l s i
      refine ⟨fun hi => ?_, fun d hd => ?_⟩
      · rw [signs_len] at hi
        show z.cps.size ≤ i
        simpa using hi
      · rw [signs_get] at hd
        cases ec : z.cps.toList[i]? with
        | none => rw [ec] at hd; cases hd
        | some c =>
          rw [ec] at hd; cases hd
          have ec' : z.cps[i]? = some c := by simpa using ec
          refine ⟨?_, fun x H' y => ?_⟩
          · show i < z.cps.size
            exact (Array.getElem?_eq_some_iff.mp ec').1
          · obtain ⟨rfl, c', e1, rfl⟩ := y
            rw [ec'] at e1; cases e1
            exact ⟨M', .refl M', s, .str _⟩
    · cases e1
  · rename_i c fs S2 e1
    split at e1 <;> cases e1
  · exact h1.elim

/-! ### for -/
def loopD (gt : D → Ga → Sto → Option Ga) (body : DS) : List D → DS
  | [], Γ, S => .nx Γ S
  | d :: r, Γ, S => (match gt d Γ S with
    | some Γ1 => (match body Γ1 S with
      | .nx Γ2 S2 => loopD gt body r Γ2 S2
      | .ct Γ2 S2 => loopD gt body r Γ2 S2
      | .bk Γ2 S2 => .nx Γ2 S2
      | o => o)
    | none => .bad)
/-- what is undone behind a walk: nothing, the lock of a frozen dict, of a dict of the store -/
inductive UK where
  | no | fz | st (n : Nat)
def unl : UK → Sto → Option Sto
  | .no, S => some S
  | .fz, S => some S
  | .st n, S => (match S.at n with
    | some (.lck m) => some (S.set n m)
    | _ => none)
abbrev DI := Ga → Sto → Res (List D × UK)
def NoFrz (X : Cx) (d : Addr) : Prop := ∀ o' u', X.H_0 d ≠ some (.frz o' u')
def BackTo (X : Cx) (H H' : Hp) : Prop := H' = H ∨ ∃ d od u, H d = some (.frz od u) ∧ NoFrz X d ∧ H' = upd H d u
def EndOk (X : Cx) (C : Cfg) (M M1 : Wd) (k : UK) : Prop := ∀ M' S' S'' H', M1.le M' → Sim C M' S' H' → unl k S' = some S'' → ∃ M'' H'', M.le M'' ∧ M'.lev M'' ∧ Sim C M'' S'' H'' ∧ BackTo X H' H''
/-- something that is walked, by data, with what is undone -/
def ItU (X : Cx) (C : Cfg) (W : XK) (tg iter : Expr) (f : DI) : Prop :=
  ∃ wi : TI, PI X tg iter wi ∧ ∀ (M : Wd) (Γ : Ga) (S : Sto) (σ : St) (H : Hp) (R : It → Hp → Prop), SimG C M Γ σ → Sim C M S H →
    (match f Γ S with
      | .ok (ds, k) S1 => ∀ M1 H1 J, M.le M1 → Sim C M1 S1 H1 → Gives C M1 J ds → EndOk X C M M1 k → R J H1
      | .exc c fs S1 => ∀ M' cls dd H', M.le M' → Sim C M' S1 H' → RepX C M' H' cls dd c fs → W cls dd H'
      | .bad => False) → wi σ H R
def iNo (f : DA) : DI := fun Γ S => (f Γ S).bind fun ds S1 => .ok (ds, .no) S1
theorem end_no {M M1 : Wd} (l : M.le M1) : EndOk X C M M1 .no := fun M' S' S'' H' l1 s e => by
  cases e
  exact ⟨M', H', l.trans l1, ⟨fun _ _ h => h, fun _ _ h => h⟩, s, .inl rfl⟩
theorem ItD.u {f : DA} (h : ItD X C W tg iter f) : ItU X C W tg iter (iNo f) := by
  obtain ⟨wi, hw, k⟩ := h
  refine ⟨wi, hw, fun M Γ S σ H R g s q => k M Γ S σ H R g s ?_⟩
  have q : (match (f Γ S).bind fun ds S1 => Res.ok (ds, UK.no) S1 with
      | .ok (ds, k) S1 => ∀ M1 H1 J, M.le M1 → Sim C M1 S1 H1 → Gives C M1 J ds → EndOk X C M M1 k → R J H1
      | .exc c fs S1 => ∀ M' cls dd H', M.le M' → Sim C M' S1 H' → RepX C M' H' cls dd c fs → W cls dd H'
      | .bad => False) := q
  cases e : f Γ S with
  | bad => rw [e] at q; exact q
  | exc c fs S1 => rw [e] at q; exact q
  | ok ds S1 => rw [e] at q; exact fun M1 H1 J l s1 gv => q M1 H1 J l s1 gv (end_no l)
/-- every end, also with a lock to undo -/
def unlE (X : Cx) (E : Ends) : Ends := ⟨fun σ H => ∃ H', BackTo X H H' ∧ E.nx σ H', fun v H => ∃ H', BackTo X H H' ∧ E.rt v H', fun σ H => ∃ H', BackTo X H H' ∧ E.bk σ H', fun σ H => ∃ H', BackTo X H H' ∧ E.ct σ H'⟩
theorem BackTo.inv {pins : List (Addr × Obj)} {σ : St} {H H' : Hp} {s : Shared} (b : BackTo X H H') (I : Inv X pins σ H s) : Inv X pins σ H' s := by
  rcases b with rfl | ⟨d, od, u, h, n, rfl⟩
  · exact I
  · exact I.unlock h n
theorem ps_unl {st : Stmt} {t : TS} (h : PS X st t) : PS X st (fun E σ H => t (unlE X E) σ H) := ⟨fun pins s σ H E I q => by
  refine thn (h.run pins s σ H _ I q) fun f s1 r => ?_
  cases f with
  | next => obtain ⟨σ', H', I2, H'', b, e⟩ := r; exact ⟨σ', _, b.inv I2, e⟩
  | brk => obtain ⟨σ', H', I2, H'', b, e⟩ := r; exact ⟨σ', _, b.inv I2, e⟩
  | cont => obtain ⟨σ', H', I2, H'', b, e⟩ := r; exact ⟨σ', _, b.inv I2, e⟩
  | ret v => obtain ⟨x, σ', H', I2, rv, H'', b, e⟩ := r; exact ⟨x, σ', _, b.inv I2, rv, e⟩⟩
theorem pe_unl {e : Expr} {t : TE} (h : PE X e t) : PE X e (fun σ H Q => t σ H fun v H1 => ∃ H', BackTo X H1 H' ∧ Q v H') := ⟨fun pins s σ H Q I q => by
  refine thn (h.run pins s σ H _ I q) fun v s1 ⟨x, H1, I1, rv, H', b, q'⟩ => ?_
  exact ⟨x, H', b.inv I1, rv, q'⟩⟩
theorem SimG.monoV {M M' : Wd} {Γ : Ga} {σ : St} (l : M.lev M') (g : SimG C M Γ σ) : SimG C M' Γ σ := ⟨g.1, fun i d e => let ⟨v, a, r⟩ := g.2 i d e; ⟨v, a, r.monoV l⟩⟩
def unlS (k : UK) (r : SRes) : SRes := match r with
  | .nx Γ S => (match unl k S with
    | some S' => .nx Γ S'
    | none => .bad)
  | .rt d S => (match unl k S with
    | some S' => .rt d S'
    | none => .bad)
  | .bk Γ S => (match unl k S with
    | some S' => .bk Γ S'
    | none => .bad)
  | .ct Γ S => (match unl k S with
    | some S' => .ct Γ S'
    | none => .bad)
  | .exc c fs S => (match k with
    | .no => .exc c fs S
    | _ => .bad)
  | .bad => .bad
theorem unl_good {M M1 : Wd} {k : UK} {r : SRes} {E : Ends} (l : M.le M1) (en : EndOk X C M M1 k) (h : GoodS C (WS W) M (unlS k r) E) : GoodS C (WS W) M1 r (unlE X E) := by
  cases r with
  | bad => exact h
  | exc c fs S =>
    cases k with
    | no => exact fun M' σ' cls dd H' l' => h M' σ' cls dd H' (l.trans l')
    | fz => exact h.elim
    | st n => exact h.elim
  | nx Γ S =>
    have h : GoodS C (WS W) M (match unl k S with
      | some S' => .nx Γ S'
      | none => .bad) E := h
    split at h
    · rename_i S' e
      intro M' σ' H' l' g s
      obtain ⟨M'', H'', l2, lv, s2, b⟩ := en M' S S' H' l' s e
      exact ⟨H'', b, h M'' σ' H'' l2 (g.monoV lv) s2⟩
    · exact h.elim
  | bk Γ S =>
    have h : GoodS C (WS W) M (match unl k S with
      | some S' => .bk Γ S'
      | none => .bad) E := h
    split at h
    · rename_i S' e
      intro M' σ' H' l' g s
      obtain ⟨M'', H'', l2, lv, s2, b⟩ := en M' S S' H' l' s e
      exact ⟨H'', b, h M'' σ' H'' l2 (g.monoV lv) s2⟩
    · exact h.elim
  | ct Γ S =>
    have h : GoodS C (WS W) M (match unl k S with
      | some S' => .ct Γ S'
      | none => .bad) E := h
    split at h
    · rename_i S' e
      intro M' σ' H' l' g s
      obtain ⟨M'', H'', l2, lv, s2, b⟩ := en M' S S' H' l' s e
      exact ⟨H'', b, h M'' σ' H'' l2 (g.monoV lv) s2⟩
    · exact h.elim
  | rt d S =>
    have h : GoodS C (WS W) M (match unl k S with
      | some S' => .rt d S'
      | none => .bad) E := h
    split at h
    · rename_i S' e
      intro M' v H' l' s r
      obtain ⟨M'', H'', l2, lv, s2, b⟩ := en M' S S' H' l' s e
      exact ⟨H'', b, h M'' v H'' l2 s2 (r.monoV lv)⟩
    · exact h.elim
def sFor (fi : DI) (gt : D → Ga → Sto → Option Ga) (body : DS) : DS := fun Γ S => (fi Γ S).then fun p S1 => unlS p.2 (loopD gt body p.1 Γ S1)
theorem yfor {fi : DI} {body : List Stmt} {vs : List Nat} {fb : DS} {gt : D → Ga → Sto → Option Ga} (hp : PassesOwn (model X.prog X.w) X.A X.env X.xe) (hc : X.calm = true) (hi : ItU X C W tg iter fi) (hg : TgD X C tg vs gt) (hb : PSs X body (tS C W fb)) (hs : ∀ x, foldedSetIterable iter X.env x = pure x := by intro _; rfl) : PS X (.For tg iter body [] pos) (tS C W (sFor fi gt fb)) := by
  obtain ⟨wi, hwi, k⟩ := hi
  obtain ⟨t, ht, kt⟩ := hg
  refine (ps_unl (ps_for hp hc hwi ht hb hs)).by fun E σ H ⟨M, Γ, S, g, s, h⟩ => ?_
  refine k M Γ S σ H _ g s ?_
  have h : GoodS C (WS W) M ((fi Γ S).then fun p S1 => unlS p.2 (loopD gt fb p.1 Γ S1)) E := h
  cases e : fi Γ S with
  | bad => rw [e] at h; exact h
  | exc c fs S1 => rw [e] at h; exact fun M' cls dd H' l s' r => h M' σ cls dd H' l s' r
  | ok p S1 =>
    obtain ⟨ds, uk⟩ := p
    rw [e] at h
    have h0 : GoodS C (WS W) M (unlS uk (loopD gt fb ds Γ S1)) E := h
    clear h
    intro M1 H1 J l1 s1 gv en
    have h : GoodS C (WS W) M1 (loopD gt fb ds Γ S1) (unlE X E) := unl_good l1 en h0
    refine ⟨fun i m σ H => ∃ M' Γ' S' r, M1.le M' ∧ SimG C M' Γ' σ ∧ Sim C M' S' H ∧ r = ds.drop i ∧ m = r.length ∧ i ≤ ds.length ∧ GoodS C (WS W) M' (loopD gt fb r Γ' S') (unlE X E), ⟨_, M1, Γ, S1, ds, .refl M1, g.mono l1, s1, rfl, rfl, Nat.zero_le _, h⟩, ?_⟩
    rintro i m σ H ⟨M', Γ', S', r, l', g', s', er, em, hle, h'⟩
    obtain ⟨gs, gg⟩ := gv M' S' H l' s' i
    cases r with
    | nil =>
      have : ds.length ≤ i := by
        have := congrArg List.length er
        simp at this; omega
      exact .inl ⟨gs this, GoodS.nxt h' g' s'⟩
    | cons d r =>
      have hd : ds[i]? = some d := by
        have h1 : (ds.drop i)[0]? = some d := by rw [← er]; rfl
        simpa using h1
      have hr : r = ds.drop (i + 1) := by
        rw [show ds.drop (i + 1) = (ds.drop i).drop 1 by rw [List.drop_drop], ← er]; rfl
      have hlt : i < ds.length := (List.getElem?_eq_some_iff.mp hd).1
      obtain ⟨go, yl⟩ := gg d hd
      refine .inr ⟨go, fun σ H => ∃ M2 Γ2 S2, M1.le M2 ∧ SimG C M2 Γ2 σ ∧ Sim C M2 S2 H ∧ GoodS C (WS W) M2 (loopD gt fb r Γ2 S2) (unlE X E), fun σ' H' ⟨M2, Γ2, S2, a, b, c, q⟩ => ⟨r.length, by rw [em]; simp, M2, Γ2, S2, r, a, b, c, hr, rfl, hlt, q⟩, fun x H' y => ?_⟩
      obtain ⟨M2, l2, s2, rx⟩ := yl x H' y
      unfold loopD at h'
      cases eg : gt d Γ' S' with
      | none => rw [eg] at h'; exact h'.elim
      | some Γ1 =>
        rw [eg] at h'
        refine kt M2 S' Γ' Γ1 σ H' d x _ (g'.mono l2) s2 rx eg fun σ1 g1 _ => ⟨M2, Γ1, S', g1, s2, ?_⟩
        have h' : GoodS C (WS W) M2 (match fb Γ1 S' with
          | .nx Γ2 S2 => loopD gt fb r Γ2 S2
          | .ct Γ2 S2 => loopD gt fb r Γ2 S2
          | .bk Γ2 S2 => .nx Γ2 S2
          | o => o) (unlE X E) := GoodS.mono l2 h'
        cases eb : fb Γ1 S' with
        | nx Γ3 S3 => rw [eb] at h'; exact fun M3 σ3 H3 l3 g3 s3 => ⟨M3, Γ3, S3, (l'.trans l2).trans l3, g3, s3, GoodS.mono l3 h'⟩
        | ct Γ3 S3 => rw [eb] at h'; exact fun M3 σ3 H3 l3 g3 s3 => ⟨M3, Γ3, S3, (l'.trans l2).trans l3, g3, s3, GoodS.mono l3 h'⟩
        | bk Γ3 S3 => rw [eb] at h'; exact h'
        | rt d S3 => rw [eb] at h'; exact h'
        | exc c fs S3 => rw [eb] at h'; exact h'
        | bad => rw [eb] at h'; exact h'
/-! ### while -/
def loopW (ft : DT) (body : DS) : Nat → DS
  | 0, _, _ => .bad
  | n + 1, Γ, S => (ft Γ S).then fun k S1 => match k with
    | true => (match body Γ S1 with
      | .nx Γ2 S2 => loopW ft body n Γ2 S2
      | .ct Γ2 S2 => loopW ft body n Γ2 S2
      | .bk Γ2 S2 => .nx Γ2 S2
      | o => o)
    | false => .nx Γ S1
theorem ywhile {body : List Stmt} {c : Expr} {ft : DT} {fb : DS} (n : Nat) (hp : PassesOwn (model X.prog X.w) X.A X.env X.xe) (hc : PT X c (tT C W ft)) (hb : PSs X body (tS C W fb)) : PS X (.While c body [] pos) (tS C W (loopW ft fb n)) := by
  refine (ps_while hp hc hb).by fun E σ H ⟨M, Γ, S, g, s, h⟩ => ?_
  refine ⟨fun m σ H => ∃ M' Γ' S', SimG C M' Γ' σ ∧ Sim C M' S' H ∧ GoodS C (WS W) M' (loopW ft fb m Γ' S') E, ⟨n, M, Γ, S, g, s, h⟩, ?_⟩
  rintro m σ H ⟨M', Γ', S', g', s', h'⟩
  cases m with
  | zero => exact h'.elim
  | succ m =>
    unfold loopW at h'
    refine runTS g' s' h' fun M1 k S1 H1 l1 s1 h1 => ?_
    cases k with
    | false => exact iteF (GoodS.nxt h1 (g'.mono l1) s1)
    | true =>
      refine iteT ⟨fun σ H => ∃ M2 Γ2 S2, SimG C M2 Γ2 σ ∧ Sim C M2 S2 H ∧ GoodS C (WS W) M2 (loopW ft fb m Γ2 S2) E, fun σ' H' q => ⟨m, Nat.lt_succ_self m, q⟩, M1, Γ', S1, g'.mono l1, s1, ?_⟩
      have h1 : GoodS C (WS W) M1 (match fb Γ' S1 with
        | .nx Γ2 S2 => loopW ft fb m Γ2 S2
        | .ct Γ2 S2 => loopW ft fb m Γ2 S2
        | .bk Γ2 S2 => .nx Γ2 S2
        | o => o) E := h1
      cases eb : fb Γ' S1 with
      | nx Γ3 S3 => rw [eb] at h1; exact fun M3 σ3 H3 l3 g3 s3 => ⟨M3, Γ3, S3, g3, s3, GoodS.mono l3 h1⟩
      | ct Γ3 S3 => rw [eb] at h1; exact fun M3 σ3 H3 l3 g3 s3 => ⟨M3, Γ3, S3, g3, s3, GoodS.mono l3 h1⟩
      | bk Γ3 S3 => rw [eb] at h1; exact h1
      | rt d S3 => rw [eb] at h1; exact h1
      | exc c fs S3 => rw [eb] at h1; exact h1
      | bad => rw [eb] at h1; exact h1
end
end Pd

namespace Pd
open PySem PySem.Spec L2

/-! ### comprehensions -/
abbrev W0 : XK := fun _ _ _ => False
/-- a target within every block of this scope -/
def TgU (X : Cx) (C : Cfg) (scope : Scope) (tg : Expr) (vs : List Nat) (f : D → Ga → Sto → Option Ga) : Prop :=
  ∃ t : TG, (∀ (s : Shared) (H : Hp) (c : Addr) (cl : List (Str × Addr)) (fp : List Addr), PG (X.blk s H scope (compEnvC scope cl c X.env) fp) tg t) ∧
    ∀ (M : Wd) (S : Sto) (Γ Γ' : Ga) (σ : St) (H : Hp) (d : D) (v : V) (Q : St → Hp → Prop), SimG C M Γ σ → Sim C M S H → Rep C M d v → f d Γ S = some Γ' →
      (∀ σ', SimG C M Γ' σ' → wipe σ' vs = wipe σ vs → Q σ' H) → t v σ H Q
def TgUs (X : Cx) (C : Cfg) (scope : Scope) (ts : List Expr) (vs : List Nat) (f : List D → Ga → Sto → Option Ga) : Prop :=
  ∃ t : TGs, (∀ (s : Shared) (H : Hp) (c : Addr) (cl : List (Str × Addr)) (fp : List Addr), PGs (X.blk s H scope (compEnvC scope cl c X.env) fp) ts t) ∧
    ∀ (M : Wd) (S : Sto) (Γ Γ' : Ga) (σ : St) (H : Hp) (ds : List D) (xs : List V) (Q : St → Hp → Prop), SimG C M Γ σ → Sim C M S H → RepL C M ds xs → f ds Γ S = some Γ' →
      (∀ σ', SimG C M Γ' σ' → wipe σ' vs = wipe σ vs → Q σ' H) → t xs σ H Q
section
variable {X : Cx} {C : Cfg} {W : XK} {scope : Scope} {pos : Pos} {vs : List Nat}
theorem uname {i : Nat} {x : Str} (h : ∀ (s : Shared) (H : Hp) (c : Addr) (cl : List (Str × Addr)) (fp : List Addr), PG (X.blk s H scope (compEnvC scope cl c X.env) fp) (.Name x pos) (gName i)) (hv : i ∈ vs) : TgU X C scope (.Name x pos) vs (gN i) :=
  ⟨gName i, h, fun M S Γ Γ' σ H d v Q g s r e q => by
    cases e
    exact q _ (g.set r i) (wipe_set hv)⟩
theorem usnil : TgUs X C scope [] vs gNil := ⟨L2.gNil, fun _ _ _ _ _ => pgs_nil, fun M S Γ Γ' σ H ds xs Q g s r e q => by
  unfold gNil at e
  split at e
  · cases e; exact ⟨r.nil_inv, q σ g rfl⟩
  · cases e⟩
theorem uscons {e : Expr} {es : List Expr} {f : D → Ga → Sto → Option Ga} {fr : List D → Ga → Sto → Option Ga} (h1 : TgU X C scope e vs f) (h2 : TgUs X C scope es vs fr)
    (hs : ∀ env, (assignEach (e :: es) env).map (·.2) = assign e env :: (assignEach es env).map (·.2) := by intro _; rfl) : TgUs X C scope (e :: es) vs (gCons f fr) := by
  obtain ⟨t, ht, k⟩ := h1
  obtain ⟨u, hu, k2⟩ := h2
  refine ⟨L2.gCons t u, fun s H c cl fp => pgs_cons (ht s H c cl fp) (hu s H c cl fp) (hs _), fun M S Γ Γ' σ H ds xs Q g s r e q => ?_⟩
  unfold gCons at e
  split at e
  · rename_i d ds'
    split at e
    · rename_i Γ1 e1
      obtain ⟨v, us, rfl, r1, r2⟩ := r.cons_inv
      refine ⟨v, us, rfl, k M S Γ Γ1 σ H d v _ g s r1 e1 fun σ1 g1 w1 => ?_⟩
      exact k2 M S Γ1 Γ' σ1 H ds' us Q g1 s r2 e fun σ2 g2 w2 => q σ2 g2 (w2.trans w1)
    · cases e
  · cases e
theorem utup {es : List Expr} {k n : Nat} {fr : List D → Ga → Sto → Option Ga} (hK : X.K = C.K) (hc : X.calm = true) (h : TgUs X C scope es vs fr) (hn : ∀ env, (assignEach es env).length = n := by intro _; rfl) (hst : ∀ env, (assignEach es env).findIdx? (·.1) = none := by intro _; rfl) : TgU X C scope (.Tuple es k pos) vs (gTp n fr) := by
  obtain ⟨t, ht, k1⟩ := h
  refine ⟨gTup X.K n t, fun s H c cl fp => pg_tup hc (ht s H c cl fp) (hn _) (hst _), fun M S Γ Γ' σ H d v Q g s r e q => ?_⟩
  unfold gTp at e
  split at e
  · rename_i ds
    split at e
    · rename_i el
      obtain ⟨a, xs, rfl, ha, rl⟩ := tup_of s r rfl
      exact ⟨a, xs, rfl, hK ▸ ha, by rw [← rl.1]; exact lenIs_ok el, k1 M S Γ Γ' σ H ds xs Q g s rl e q⟩
    · cases e
  · cases e
def wipeG (Γ : Ga) : List Nat → Ga
  | [] => Γ
  | v :: vs => (wipeG Γ vs).set v none
theorem wipeG_ok {M : Wd} {Γ : Ga} {σ : St} (g : SimG C M Γ σ) : ∀ vs : List Nat, SimG C M (wipeG Γ vs) (wipe σ vs)
  | [] => g
  | v :: vs => by
    have ih := wipeG_ok g vs
    refine ⟨by show ((wipeG Γ vs).set v none).length = ((wipe σ vs).set v none).length; rw [List.length_set, List.length_set, ih.1], fun i d h => ?_⟩
    have h : ((wipeG Γ vs).set v none)[i]? = some (some d) := h
    show ∃ u, ((wipe σ vs).set v none)[i]? = some (some u) ∧ _
    by_cases hv : v = i
    · subst hv
      by_cases hl : v < (wipeG Γ vs).length
      · rw [List.getElem?_set_self hl] at h; cases h
      · rw [List.getElem?_eq_none (by simpa using hl)] at h; cases h
    · rw [List.getElem?_set_ne hv] at h ⊢
      exact ih.2 i d h
def loopC (gt : D → Ga → Sto → Option Ga) (ft : DT) (fe : DE) (Γ : Ga) (n : Nat) : List D → Sto → Option Sto
  | [], S => some S
  | d :: r, S => (match gt d Γ S with
    | some Γ1 => (match ft Γ1 S with
      | .ok true S1 => (match fe Γ1 S1 with
        | .ok e S2 => (match S2.at n with
          | some (.lst acc) => (match lineOk (acc.length + 1) with
            | true => loopC gt ft fe Γ n r (S2.set n (.lst (acc ++ [e])))
            | false => none)
          | _ => none)
        | _ => none)
      | .ok false S1 => loopC gt ft fe Γ n r S1
      | _ => none)
    | none => none)
/-- [fe for gt in fi if ft]; fin: what becomes of the new list -/
def dLc (fin : D → Sto → Res D) (fi : DI) (gt : D → Ga → Sto → Option Ga) (ft : DT) (fe : DE) (vs : List Nat) : DE := fun Γ S => (fi Γ S).bind fun p S1 => match loopC gt ft fe (wipeG Γ vs) S1.nx p.1 (S1.new (.lst [])) with
  | some S2 => (match unl p.2 S2 with
    | some S3 => fin (.ref S1.nx) S3
    | none => .bad)
  | none => .bad
def keep : D → Sto → Res D := fun d S => .ok d S
/-- what may be done with a new list in the end -/
def FinOk (C : Cfg) (W : XK) (fin : D → Sto → Res D) : Prop := ∀ (M : Wd) (S : Sto) (H : Hp) (d : D) (v : V) (Q : VK), Sim C M S H → Rep C M d v → GoodE C M (fin d S) Q W → Q v H
theorem fin_frz : FinOk C W frz := fun M S H d v Q s r q => frz_ok s r q
theorem fin_keep : FinOk C W keep := fun M S H d v Q s r q => q.ok s r
theorem lc_rd {tg iter : Expr} {fi : DI} {gt : D → Ga → Sto → Option Ga} {ft : DT} {fe : DE} {fin : D → Sto → Res D} {wi : TI} {t : TG} (hfin : FinOk C W fin)
    (k : ∀ (M : Wd) (Γ : Ga) (S : Sto) (σ : St) (H : Hp) (R : It → Hp → Prop), SimG C M Γ σ → Sim C M S H →
    (match fi Γ S with
      | .ok (ds, k) S1 => ∀ M1 H1 J, M.le M1 → Sim C M1 S1 H1 → Gives C M1 J ds → EndOk X C M M1 k → R J H1
      | .exc c fs S1 => ∀ M' cls dd H', M.le M' → Sim C M' S1 H' → RepX C M' H' cls dd c fs → W cls dd H'
      | .bad => False) → wi σ H R)
    (kt : ∀ (M : Wd) (S : Sto) (Γ Γ' : Ga) (σ : St) (H : Hp) (d : D) (v : V) (Q : St → Hp → Prop), SimG C M Γ σ → Sim C M S H → Rep C M d v → gt d Γ S = some Γ' →
      (∀ σ', SimG C M Γ' σ' → wipe σ' vs = wipe σ vs → Q σ' H) → t v σ H Q) {σ : St} {H : Hp} {Q : VK} (h : tE C W (dLc fin fi gt ft fe vs) σ H Q) : tLc wi t (tT C W0 ft) (tE C W0 fe) vs σ H fun v H1 => ∃ H', BackTo X H1 H' ∧ Q v H' := by
  obtain ⟨M, Γ, S, g, s, h⟩ := h
  refine k M Γ S σ H _ g s ?_
  have h : GoodE C M ((fi Γ S).bind fun p S1 => match loopC gt ft fe (wipeG Γ vs) S1.nx p.1 (S1.new (.lst [])) with
    | some S2 => (match unl p.2 S2 with
      | some S3 => fin (.ref S1.nx) S3
      | none => .bad)
    | none => .bad) Q W := h
  cases e : fi Γ S with
  | bad => rw [e] at h; exact h
  | exc c fs S1 => rw [e] at h; exact h
  | ok p S1 =>
    obtain ⟨ds, uk⟩ := p
    rw [e] at h
    have h : GoodE C M (match loopC gt ft fe (wipeG Γ vs) S1.nx ds (S1.new (.lst [])) with
      | some S2 => (match unl uk S2 with
        | some S3 => fin (.ref S1.nx) S3
        | none => .bad)
      | none => .bad) Q W := h
    cases el : loopC gt ft fe (wipeG Γ vs) S1.nx ds (S1.new (.lst [])) with
    | none => rw [el] at h; exact h.elim
    | some S2 =>
    rw [el] at h
    intro M1 H1 J l1 s1 gv en Dd hD
    have lb : M1.le (M1.bind S1.nx Dd) := Wd.bind_le s1
    have sb : Sim C (M1.bind S1.nx Dd) (S1.new (.lst [])) (upd H1 Dd (.lst [])) := s1.bindNew hD ⟨[], rfl, .nil⟩
    have hmu : (M1.bind S1.nx Dd).mu S1.nx = some Dd := if_pos rfl
    refine ⟨fun i m H => ∃ M' S' r, (M1.bind S1.nx Dd).le M' ∧ Sim C M' S' H ∧ r = ds.drop i ∧ m = r.length ∧ i ≤ ds.length ∧ loopC gt ft fe (wipeG Γ vs) S1.nx r S' = some S2, ⟨_, _, _, ds, .refl _, sb, rfl, rfl, Nat.zero_le _, el⟩, ?_⟩
    rintro i m H ⟨M', S', r, l', s', er, em, hle, h'⟩
    have lM : M1.le M' := lb.trans l'
    obtain ⟨gs, gg⟩ := gv M' S' H lM s' i
    cases r with
    | nil =>
      have : ds.length ≤ i := by
        have := congrArg List.length er
        simp at this; omega
      have e2 : S' = S2 := by unfold loopC at h'; exact Option.some.inj h'
      subst e2
      have h : GoodE C M (match unl uk S' with
        | some S3 => fin (.ref S1.nx) S3
        | none => .bad) Q W := h
      split at h
      · rename_i S3 e3
        obtain ⟨M'', H'', l2, lv, s2, b⟩ := en M' S' S3 H lM s' e3
        exact .inl ⟨gs this, H'', b, hfin M'' S3 H'' _ _ Q s2 (.ref (lv.2 _ _ (l'.2.1 _ _ hmu))) (GoodE.mono l2 h)⟩
      · exact h.elim
    | cons d r =>
      have hd : ds[i]? = some d := by
        have h1 : (ds.drop i)[0]? = some d := by rw [← er]; rfl
        simpa using h1
      have hr : r = ds.drop (i + 1) := by
        rw [show ds.drop (i + 1) = (ds.drop i).drop 1 by rw [List.drop_drop], ← er]; rfl
      have hlt : i < ds.length := (List.getElem?_eq_some_iff.mp hd).1
      obtain ⟨go, yl⟩ := gg d hd
      refine .inr ⟨go, fun H => ∃ M' S', (M1.bind S1.nx Dd).le M' ∧ Sim C M' S' H ∧ loopC gt ft fe (wipeG Γ vs) S1.nx r S' = some S2, fun H' ⟨M2, S3, a, b, c⟩ => ⟨r.length, by rw [em]; simp, M2, S3, r, a, b, hr, rfl, hlt, c⟩, fun x H' y => ?_⟩
      obtain ⟨M2, l2, s2, rx⟩ := yl x H' y
      unfold loopC at h'
      cases eg : gt d (wipeG Γ vs) S' with
      | none => rw [eg] at h'; cases h'
      | some Γ1 =>
        rw [eg] at h'
        have g0 : SimG C M2 (wipeG Γ vs) (wipe σ vs) := (wipeG_ok g vs).mono ((l1.trans lM).trans l2)
        refine kt M2 S' (wipeG Γ vs) Γ1 (wipe σ vs) H' d x _ g0 s2 rx eg fun σ1 g1 w1 => ⟨w1.trans (wipe_wipe σ vs), M2, Γ1, S', g1, s2, ?_⟩
        have h' : (match ft Γ1 S' with
          | .ok true S1' => (match fe Γ1 S1' with
            | .ok e S2 => (match S2.at S1.nx with
              | some (.lst acc) => (match lineOk (acc.length + 1) with
                | true => loopC gt ft fe (wipeG Γ vs) S1.nx r (S2.set S1.nx (.lst (acc ++ [e])))
                | false => none)
              | _ => none)
            | _ => none)
          | .ok false S1' => loopC gt ft fe (wipeG Γ vs) S1.nx r S1'
          | _ => none) = some S2 := h'
        cases eft : ft Γ1 S' with
        | bad => rw [eft] at h'; cases h'
        | exc c fs S3 => rw [eft] at h'; cases h'
        | ok b S3 =>
          rw [eft] at h'
          intro M3 H3 l3 s3
          cases b with
          | false => exact iteF ⟨M3, S3, (l'.trans l2).trans l3, s3, h'⟩
          | true =>
            refine iteT ⟨M3, Γ1, S3, g1.mono l3, s3, ?_⟩
            have h' : (match fe Γ1 S3 with
              | .ok e S2 => (match S2.at S1.nx with
                | some (.lst acc) => (match lineOk (acc.length + 1) with
                  | true => loopC gt ft fe (wipeG Γ vs) S1.nx r (S2.set S1.nx (.lst (acc ++ [e])))
                  | false => none)
                | _ => none)
              | _ => none) = some S2 := h'
            cases efe : fe Γ1 S3 with
            | bad => rw [efe] at h'; cases h'
            | exc c fs S3 => rw [efe] at h'; cases h'
            | ok e4 S4 =>
              rw [efe] at h'
              intro M4 y4 H4 l4 s4 r4
              have h' : (match S4.at S1.nx with
                | some (.lst acc) => (match lineOk (acc.length + 1) with
                  | true => loopC gt ft fe (wipeG Γ vs) S1.nx r (S4.set S1.nx (.lst (acc ++ [e4])))
                  | false => none)
                | _ => none) = some S2 := h'
              split at h'
              · rename_i acc ea
                split at h'
                · rename_i eo
                  have lall : (M1.bind S1.nx Dd).le M4 := ((l'.trans l2).trans l3).trans l4
                  obtain ⟨a, o, h1, h2, h3, avs, rfl, ra⟩ := s4.al _ _ ea
                  have hmu4 : M4.mu S1.nx = some Dd := lall.2.1 _ _ hmu
                  rw [hmu4] at h1; cases h1
                  refine ⟨avs, h2, by rw [← ra.1]; exact lineOk_lt eo, M4, _, lall, s4.write (m' := .lst (acc ++ [e4])) ea hmu4 ⟨_, rfl, ra.append (.cons r4 .nil)⟩, h'⟩
                · cases h'
              · cases h'
theorem xlc {elt tg iter : Expr} {ifs : List Expr} {own : List (Str × Nat)} {fi : DI} {gt : D → Ga → Sto → Option Ga} {ft : DT} {fe : DE} {fin : D → Sto → Res D} (hfin : FinOk C W fin) (hc : X.calm = true) (hN : X.N.Nodup) (hi : ItU X C W tg iter fi) (ok : BlkOk X.N X.env.scope scope own)
    (hg : TgU X C scope tg (own.map (·.2)) gt) (ht : ∀ (s : Shared) (H : Hp) (c : Addr) (cl : List (Str × Addr)) (fp : List Addr), PTs (X.blk s H scope (compEnvC scope cl c X.env) fp) ifs (tT C W0 ft))
    (he : ∀ (s : Shared) (H : Hp) (c : Addr) (cl : List (Str × Addr)) (fp : List Addr), PE (X.blk s H scope (compEnvC scope cl c X.env) fp) elt (tE C W0 fe)) (hs : ∀ x, foldedSetIterable iter X.env x = pure x := by intro _; rfl) :
    PE X (.ListComp elt [⟨tg, iter, ifs, 0⟩] scope pos) (tE C W (dLc fin fi gt ft fe (own.map (·.2)))) := by
  obtain ⟨wi, hwi, k⟩ := hi
  obtain ⟨t, htg, kt⟩ := hg
  exact (pe_unl (pe_lc hc hN hwi ok htg ht he hs)).by fun σ H Q h => lc_rd (tg := tg) (iter := iter) hfin k kt h
theorem ysetLc {i : Nat} {y : Str} {py spos : Pos} {elt tg iter : Expr} {ifs : List Expr} {own : List (Str × Nat)} {fi : DI} {gt : D → Ga → Sto → Option Ga} {ft : DT} {fe : DE} {fin : D → Sto → Res D} (hfin : FinOk C W fin) (hc : X.calm = true) (hN : X.N.Nodup) (hy : X.N[i]? = some y) (hyl : X.env.scope.names.lookup y = some .local)
    (hsw : swapsWith (.ListComp elt [⟨tg, iter, ifs, 0⟩] scope pos) (some (.Name y py)) spos.line X.env = pure true) (hi : ItU X C W tg iter fi) (ok : BlkOk X.N X.env.scope scope own)
    (hg : TgU X C scope tg (own.map (·.2)) gt) (ht : ∀ (s : Shared) (H : Hp) (c : Addr) (cl : List (Str × Addr)) (fp : List Addr), PTs (X.blk s H scope (compEnvC scope cl c X.env) fp) ifs (tT C W0 ft))
    (he : ∀ (s : Shared) (H : Hp) (c : Addr) (cl : List (Str × Addr)) (fp : List Addr), PE (X.blk s H scope (compEnvC scope cl c X.env) fp) elt (tE C W0 fe)) (hs : ∀ x, foldedSetIterable iter X.env x = pure x := by intro _; rfl) :
    PS X (.Assign [.Name y py] (.ListComp elt [⟨tg, iter, ifs, 0⟩] scope pos) spos) (tS C W (sSet (dLc fin fi gt ft fe (own.map (·.2))) i)) := by
  obtain ⟨wi, hwi, k⟩ := hi
  obtain ⟨t, htg, kt⟩ := hg
  refine (ps_unl (ps_setLc hc hN hy hyl hsw hwi ok htg ht he hs)).by fun E σ H ⟨M, Γ, S, g, s, h⟩ => ?_
  refine lc_rd (W := W) (tg := tg) (iter := iter) (fin := fin) hfin k kt (Q := fun x H1 => gName i x σ H1 E.nx) ?_
  exact run1S g s h fun M1 d S1 x H1 l1 s1 r1 h1 => h1.nxt ((g.mono l1).set r1 i) s1
def dYes : DT := fun _ S => .ok true S
theorem PTs.by {X : Cx} {e : List Expr} {t t' : TT} (h : PTs X e t) (i : ∀ σ H Q, t' σ H Q → t σ H Q) : PTs X e t' := ⟨fun pins s σ H Q I q => h.run pins s σ H Q I (i σ H Q q)⟩
theorem xtnil {X : Cx} : PTs X [] (tT C W dYes) := PTs.by pts_nil fun σ H Q ⟨M, Γ, S, g, s, h⟩ => h M H (.refl M) s
theorem xtone {X : Cx} {c : Expr} {ft : DT} (h : PT X c (tT C W ft)) : PTs X [c] (tT C W ft) := pts_one h
end
end Pd

namespace Pd
open PySem PySem.Spec L2

/-! ### methods of what is built in -/
def MtD (X : Cx) (C : Cfg) (W : XK) (id : String) (g : D → List D → Sto → Res D) : Prop :=
  ∃ r, MtR X id r ∧ ∀ M S H d ds x vs Q, Sim C M S H → Rep C M d x → RepL C M ds vs → GoodE C M (g d ds S) Q W → r x vs H Q
/-- what is seen of a receiver's type -/
def TyD (C : Cfg) (T : String) (p : Sto → D → Bool) : Prop := ∀ M S H d x, Sim C M S H → Rep C M d x → p S d = true → tyV C.K T x H
def dBM (p : Sto → D → Bool) (g : D → List D → Sto → Res D) (fo : DE) (fr : DA) : DE := fun Γ S => (fo Γ S).bind fun d S1 => guard (p S1 d) ((fr Γ S1).bind fun ds S2 => g d ds S2)
section
variable {X : Cx} {C : Cfg} {W : XK} {id T : String} {g : D → List D → Sto → Res D} {p : Sto → D → Bool} {o e : Expr} {es : List Expr} {name : Str} {apos cpos : Pos} {fo : DE} {fr : DA}
theorem xbm (hK : X.K = C.K) (pa : PlainAttrs T) (slot : Slot T name id) (hty : typeOf (.builtin id) = pure (.type "method_descriptor")) (hm : MtD X C W id g) (ty : TyD C T p) (ho : PE X o (tE C W fo)) (ha : PA X (e :: es) (tA C W fr)) (hbase : attributeBase o name X.env (eval o X.env) = eval o X.env := by rfl) (hfew : ((backTo cpos (starEach (e :: es) X.env)).all (fun x => !x.1) && (backToKw cpos (keywordEach [] X.env)).all (fun x => x.1.isSome) && decide ((e :: es).length + ([] : List Keyword).length + (if ([] : List Keyword).isEmpty then 0 else 1) < 30)) = true := by rfl) (hline : (apos.endLine == cpos.line) = true := by rfl) (hs : starEach (e :: es) X.env = (false, eval e X.env) :: starEach es X.env := by rfl) (hplain : (backTo cpos (starEach es X.env)).any (·.1) = false := by rfl) :
    PE X (.Call (.Attribute o name apos) (e :: es) [] cpos) (tE C W (dBM p g fo fr)) := by
  obtain ⟨r, hr, k⟩ := hm
  exact (pe_bm pa slot hty hr ho ha hbase hfew hline hs hplain).by fun σ H Q ⟨M, Γ, S, g, s, h⟩ => run1 g s h fun M1 d S1 x H1 l1 s1 r1 h1 => by
    obtain ⟨g1, h1⟩ := guard_ok h1
    exact ⟨hK ▸ ty M1 S1 H1 d x s1 r1 g1, runA (g.mono l1) s1 h1 fun M2 ds S2 vs H2 l2 s2 r2 h2 => k M2 S2 H2 d ds x vs Q s2 (r1.mono l2) r2 h2⟩
theorem xbm0 (hK : X.K = C.K) (pa : PlainAttrs T) (slot : Slot T name id) (hty : typeOf (.builtin id) = pure (.type "method_descriptor")) (hm : MtD X C W id g) (ty : TyD C T p) (ho : PE X o (tE C W fo))
    (hbase : attributeBase o name X.env (eval o X.env) = eval o X.env := by rfl) (hline : (apos.endLine == cpos.line) = true := by rfl) : PE X (.Call (.Attribute o name apos) [] [] cpos) (tE C W (dBM p g fo aNil)) := by
  obtain ⟨r, hr, k⟩ := hm
  exact (pe_bm0 pa slot hty hr ho hbase hline).by fun σ H Q ⟨M, Γ, S, g, s, h⟩ => run1 g s h fun M1 d S1 x H1 l1 s1 r1 h1 => by
    obtain ⟨g1, h1⟩ := guard_ok h1
    exact ⟨hK ▸ ty M1 S1 H1 d x s1 r1 g1, k M1 S1 H1 d [] x [] Q s1 r1 .nil h1⟩
def isL (S : Sto) (d : D) : Bool := match lstV S d with
  | some _ => true
  | none => false
def isS (_ : Sto) (d : D) : Bool := match d with
  | .str _ => true
  | _ => false
theorem ty_lst : TyD C "list" isL := fun M S H d x s r h => by
  unfold isL at h
  split at h
  · rename_i ds e
    obtain ⟨a, vs, rfl, q, _⟩ := lst_of s r e
    exact .inl ⟨rfl, vs, q⟩
  · cases h
theorem ty_str : TyD C "str" isS := fun M S H d x s r h => by
  unfold isS at h
  split at h
  · cases r; rfl
  · cases h

/-! ### lists that change -/
def onL (d : D) (S : Sto) (f : Nat → List D → Res D) : Res D := match d with
  | .ref n => (match S.at n with
    | some (.lst xs) => f n xs
    | _ => .bad)
  | _ => .bad
theorem onL_of {M : Wd} {S : Sto} {H : Hp} {d : D} {x : V} {Q : VK} {f : Nat → List D → Res D} (s : Sim C M S H) (r : Rep C M d x) (q : GoodE C M (onL d S f) Q W) :
    ∃ n xs a vs, S.at n = some (.lst xs) ∧ M.mu n = some a ∧ x = .ref a ∧ H a = some (.lst vs) ∧ RepL C M xs vs ∧ GoodE C M (f n xs) Q W := by
  unfold onL at q
  split at q
  · rename_i n
    split at q
    · rename_i xs e
      cases r
      rename_i a hm
      obtain ⟨b, o, h1, h2, h3, vs, rfl, r⟩ := s.al n _ e
      rw [hm] at h1; cases h1
      exact ⟨n, xs, a, vs, e, hm, rfl, h2, r, q⟩
    · exact q.elim
  · exact q.elim
def gAppend : D → List D → Sto → Res D := fun d ds S => onL d S fun n xs => match ds with
  | [y] => guard (lineOk (xs.length + 1)) (.ok .non (S.set n (.lst (xs ++ [y]))))
  | _ => .bad
/-- a list of the store is written: what comes behind -/
theorem GoodE.wrote {M : Wd} {S : Sto} {H : Hp} {n : Nat} {a : Addr} {m m' : MO} {o : HO} {d : D} {v : V} {Q : VK} (q : GoodE C M (.ok d (S.set n m')) Q W) (s : Sim C M S H) (hm : S.at n = some m) (ha : M.mu n = some a) (r : RepM C M m' o) (rd : Rep C M d v) (op : m.opn = true := by rfl) : Q v (upd H a o) :=
  q.ok (s.write hm ha r op) rd
theorem mAppend : MtD X C W "list.append" gAppend := by
  refine ⟨_, mt_append, fun M S H d ds x vs Q s r rl q => ?_⟩
  obtain ⟨n, xs, a, us, e, hm, rfl, h2, rx, q⟩ := onL_of s r q
  split at q
  · rename_i y
    obtain ⟨g, q⟩ := guard_ok q
    obtain ⟨v, ws, rfl, ry, rn⟩ := rl.cons_inv
    rw [rn.nil_inv]
    exact ⟨a, us, v, rfl, rfl, h2, by rw [← rx.1]; exact lineOk_lt g, q.wrote s e hm ⟨_, rfl, rx.append (.cons ry .nil)⟩ .non⟩
  · exact q.elim
def gExtend : D → List D → Sto → Res D := fun d ds S => onL d S fun n xs => match ds with
  | [b] => (match lstX S b with
    | some zs => guard (lineOk (xs.length + zs.length)) (.ok .non (S.set n (.lst (xs ++ zs))))
    | none => .bad)
  | _ => .bad
theorem mExtend : MtD X C W "list.extend" gExtend := by
  refine ⟨_, mt_extend, fun M S H d ds x vs Q s r rl q => ?_⟩
  obtain ⟨n, xs, a, us, e, hm, rfl, h2, rx, q⟩ := onL_of s r q
  split at q
  · rename_i b
    obtain ⟨v, ws, rfl, ry, rn⟩ := rl.cons_inv
    split at q
    · rename_i zs ez
      obtain ⟨g, q⟩ := guard_ok q
      obtain ⟨p, zv, rfl, hz, rz⟩ := lstX_of s ry ez
      rw [rn.nil_inv]
      exact ⟨a, p, us, zv, rfl, rfl, h2, hz, by rw [← rx.1, ← rz.1]; exact lineOk_ok g, q.wrote s e hm ⟨_, rfl, rx.append rz⟩ .non⟩
    · exact q.elim
  · exact q.elim
def unsnoc {α : Type} : List α → Option (List α × α)
  | [] => none
  | [x] => some ([], x)
  | x :: y :: r => (match unsnoc (y :: r) with
    | some (i, z) => some (x :: i, z)
    | none => none)
theorem unsnoc_of {α : Type} : ∀ {l i : List α} {z : α}, unsnoc l = some (i, z) → l = i ++ [z]
  | [], _, _, h => by cases h
  | [x], _, _, h => by cases h; rfl
  | x :: y :: r, i, z, h => by
    unfold unsnoc at h
    split at h
    · rename_i j w e
      cases h
      rw [unsnoc_of e]
      rfl
    · cases h
theorem RepL.snoc_inv {M : Wd} {ds : List D} {d : D} {vs : List V} (r : RepL C M (ds ++ [d]) vs) : ∃ us v, vs = us ++ [v] ∧ RepL C M ds us ∧ Rep C M d v := by
  induction ds generalizing vs with
  | nil =>
    obtain ⟨v, us, rfl, h1, h2⟩ := r.cons_inv
    rw [h2.nil_inv]
    exact ⟨[], v, rfl, .nil, h1⟩
  | cons e ds ih =>
    obtain ⟨v, us, rfl, h1, h2⟩ := RepL.cons_inv (ds := ds ++ [d]) r
    obtain ⟨ws, w, rfl, q1, q2⟩ := ih h2
    exact ⟨v :: ws, w, rfl, .cons h1 q1, q2⟩
def gPop : D → List D → Sto → Res D := fun d ds S => onL d S fun n xs => match ds with
  | [] => (match unsnoc xs with
    | some (i, z) => .ok z (S.set n (.lst i))
    | none => .bad)
  | _ => .bad
theorem mPop : MtD X C W "list.pop" gPop := by
  refine ⟨_, mt_pop, fun M S H d ds x vs Q s r rl q => ?_⟩
  obtain ⟨n, xs, a, us, e, hm, rfl, h2, rx, q⟩ := onL_of s r q
  split at q
  · split at q
    · rename_i i z eu
      have ex := unsnoc_of eu
      subst ex
      obtain ⟨ws, w, rfl, q1, q2⟩ := rx.snoc_inv
      rw [rl.nil_inv]
      refine ⟨a, _, w, rfl, rfl, h2, by simp, ?_⟩
      rw [List.dropLast_concat]
      exact q.wrote s e hm ⟨_, rfl, q1⟩ q2
    · exact q.elim
  · exact q.elim
def gReverse : D → List D → Sto → Res D := fun d ds S => onL d S fun n xs => match ds with
  | [] => .ok .non (S.set n (.lst xs.reverse))
  | _ => .bad
theorem RepL.reverse {M : Wd} {ds : List D} {vs : List V} (r : RepL C M ds vs) : RepL C M ds.reverse vs.reverse := by
  induction ds generalizing vs with
  | nil => rw [r.nil_inv]; exact .nil
  | cons d ds ih =>
    obtain ⟨v, us, rfl, h1, h2⟩ := r.cons_inv
    rw [List.reverse_cons, List.reverse_cons]; exact (ih h2).append (.cons h1 .nil)
theorem mReverse : MtD X C W "list.reverse" gReverse := by
  refine ⟨_, mt_reverse, fun M S H d ds x vs Q s r rl q => ?_⟩
  obtain ⟨n, xs, a, us, e, hm, rfl, h2, rx, q⟩ := onL_of s r q
  split at q
  · rw [rl.nil_inv]
    exact ⟨a, us, rfl, rfl, h2, q.wrote s e hm ⟨_, rfl, rx.reverse⟩ .non⟩
  · exact q.elim
/-- the place of the first equal one -/
def findD (y : D) : List D → Nat → Option Nat
  | [], _ => none
  | z :: r, j => (match eqFl z y with
    | true => some j
    | false => findD y r (j + 1))
def allFl : List D → Bool
  | [] => true
  | z :: r => (match flatD z with
    | true => allFl r
    | false => false)
def gIndex : D → List D → Sto → Res D := fun d ds S => match lstV S d, ds with
  | some xs, [y] => guard (flatD y) (guard (allFl xs) (match findD y xs 0 with
    | some j => .ok (.int j) S
    | none => .bad))
  | _, _ => .bad
theorem allFl_of {M : Wd} : ∀ {ds : List D} {vs : List V}, RepL C M ds vs → allFl ds = true → vs.all flatV = true
  | [], vs, r, _ => by rw [r.nil_inv]; rfl
  | d :: ds, vs, r, h => by
    obtain ⟨v, us, rfl, h1, h2⟩ := r.cons_inv
    unfold allFl at h
    split at h
    · rename_i e
      rw [List.all_cons, flat_of h1 e, allFl_of h2 h]; rfl
    · cases h
theorem findD_of {M : Wd} {y : D} {v : V} (ry : Rep C M y v) (fy : flatD y = true) : ∀ {ds : List D} {vs : List V} {i j : Nat}, RepL C M ds vs → allFl ds = true → findD y ds i = some j → ∃ k z, j = i + k ∧ vs[k]? = some z ∧ eqV z v = true ∧ ∀ (m : Nat) (z' : V), m < k → vs[m]? = some z' → eqV z' v = false
  | [], vs, i, j, r, _, h => by cases h
  | d :: ds, vs, i, j, r, ha, h => by
    obtain ⟨u, us, rfl, h1, h2⟩ := r.cons_inv
    unfold allFl at ha
    split at ha
    · rename_i fd
      unfold findD at h
      have e0 := eqFl_of h1 ry fd fy
      split at h
      · rename_i e
        cases h
        exact ⟨0, u, rfl, rfl, by rw [← e0]; exact e, fun m z' hm => absurd hm (Nat.not_lt_zero m)⟩
      · rename_i e
        obtain ⟨k, z, rfl, h3, h4, h5⟩ := findD_of ry fy h2 ha h
        refine ⟨k + 1, z, by omega, h3, h4, fun m z' hm hz => ?_⟩
        cases m with
        | zero => cases hz; rw [← e0]; exact e
        | succ m => exact h5 m z' (by omega) hz
    · cases ha
theorem mIndex (hK : X.K = C.K) : MtD X C W "list.index" gIndex := by
  refine ⟨_, mt_index, fun M S H d ds x vs Q s r rl q => ?_⟩
  unfold gIndex at q
  split at q
  · rename_i xs y e
    obtain ⟨fy, q⟩ := guard_ok q
    obtain ⟨fx, q⟩ := guard_ok q
    split at q
    · rename_i j ej
      obtain ⟨a, us, rfl, h1, rx⟩ := lst_of s r e
      obtain ⟨v, ws, rfl, ry, rn⟩ := rl.cons_inv
      rw [rn.nil_inv]
      obtain ⟨k, z, e1, h3, h4, h5⟩ := findD_of ry fy rx fx ej
      have e2 : j = k := by omega
      subst e2
      exact ⟨a, us, v, j, z, rfl, rfl, hK ▸ h1, flat_of ry fy, allFl_of rx fx, h3, h4, h5, q.ok s (.int _)⟩
    · exact q.elim
  · exact q.elim
end
end Pd

namespace Pd
open PySem PySem.Spec L2

/-! ### tables that change -/
section
variable {κ : Type} [DecidableEq κ] -- keys
def RepG (C : Cfg) (M : Wd) (kds : List (κ × D)) (kvs : List (κ × V)) : Prop := kds.map (·.1) = kvs.map (·.1) ∧ ∀ (i : Nat) k d k' v, kds[i]? = some (k, d) → kvs[i]? = some (k', v) → Rep C M d v
variable {C : Cfg} {M : Wd}
theorem RepG.nil : RepG C M ([] : List (κ × D)) [] := ⟨rfl, fun i k d k' v h _ => by simp at h⟩
theorem RepG.nil_inv {kvs : List (κ × V)} (r : RepG C M [] kvs) : kvs = [] := by
  cases kvs with
  | nil => rfl
  | cons p ps => have := r.1; simp at this
theorem RepG.cons {k : κ} {d : D} {v : V} {kds : List (κ × D)} {kvs : List (κ × V)} (h : Rep C M d v) (r : RepG C M kds kvs) : RepG C M ((k, d) :: kds) ((k, v) :: kvs) :=
  ⟨by simp only [List.map_cons, r.1], fun i a b c e h1 h2 => by
    cases i with
    | zero => simp at h1 h2; obtain ⟨rfl, rfl⟩ := h1; obtain ⟨rfl, rfl⟩ := h2; exact h
    | succ i => exact r.2 i a b c e (by simpa using h1) (by simpa using h2)⟩
theorem RepG.cons_inv {k0 : κ} {d : D} {rs : List (κ × D)} {kvs : List (κ × V)} (r : RepG C M ((k0, d) :: rs) kvs) : ∃ v ps, kvs = (k0, v) :: ps ∧ Rep C M d v ∧ RepG C M rs ps := by
  cases kvs with
  | nil => have := r.1; simp at this
  | cons p ps =>
    obtain ⟨k1, v⟩ := p
    have e1 : k0 = k1 ∧ rs.map (·.1) = ps.map (·.1) := by simpa using r.1
    obtain ⟨rfl, e2⟩ := e1
    exact ⟨v, ps, rfl, r.2 0 k0 d k0 v rfl rfl, e2, fun i a b c e h1 h2 => r.2 (i + 1) a b c e (by simpa using h1) (by simpa using h2)⟩
theorem RepG.length {kds : List (κ × D)} {kvs : List (κ × V)} (r : RepG C M kds kvs) : kds.length = kvs.length := by
  have := congrArg List.length r.1
  simpa using this
theorem RepG.snoc {kds : List (κ × D)} {kvs : List (κ × V)} {k : κ} {d : D} {v : V} (r : RepG C M kds kvs) (h : Rep C M d v) : RepG C M (kds ++ [(k, d)]) (kvs ++ [(k, v)]) := by
  induction kds generalizing kvs with
  | nil => rw [r.nil_inv]; exact .cons h .nil
  | cons p kds ih =>
    obtain ⟨k0, d0⟩ := p
    obtain ⟨u, ps, rfl, h1, h2⟩ := r.cons_inv
    exact .cons h1 (ih h2)
def hasG (eq : κ → κ → Bool) : List (κ × D) → κ → Bool
  | [], _ => false
  | (k0, _) :: r, k => (match eq k0 k with
    | true => true
    | false => hasG eq r k)
def repG (eq : κ → κ → Bool) : List (κ × D) → κ → D → List (κ × D)
  | [], _, _ => []
  | (k0, d0) :: r, k, d => (match eq k0 k with
    | true => (k0, d) :: repG eq r k d
    | false => (k0, d0) :: repG eq r k d)
def putG (eq : κ → κ → Bool) (kds : List (κ × D)) (k : κ) (d : D) : List (κ × D) := match hasG eq kds k with
  | true => repG eq kds k d
  | false => kds ++ [(k, d)]
variable {eq : κ → κ → Bool}
theorem hasG_of (he : ∀ a b, eq a b = true ↔ a = b) : ∀ {kds : List (κ × D)} {kvs : List (κ × V)} (k : κ), RepG C M kds kvs → hasG eq kds k = kvs.any fun kv => decide (kv.1 = k)
  | [], _, k, r => by rw [r.nil_inv]; rfl
  | (k0, d) :: rs, _, k, r => by
    obtain ⟨v, ps, rfl, h1, h2⟩ := r.cons_inv
    unfold hasG
    rw [List.any_cons]
    cases e : eq k0 k with
    | true => rw [decide_eq_true ((he _ _).mp e)]; rfl
    | false =>
      have hn : ¬ k0 = k := fun z => by rw [(he _ _).mpr z] at e; cases e
      show hasG eq rs k = _
      rw [decide_eq_false (show ¬ (k0, v).1 = k from hn), Bool.false_or]
      exact hasG_of he k h2
theorem repG_of (he : ∀ a b, eq a b = true ↔ a = b) {d : D} {v : V} (rd : Rep C M d v) : ∀ {kds : List (κ × D)} {kvs : List (κ × V)} (k : κ), RepG C M kds kvs → RepG C M (repG eq kds k d) (kvs.map fun kv => if kv.1 = k then (kv.1, v) else kv)
  | [], _, k, r => by rw [r.nil_inv]; exact .nil
  | (k0, d0) :: rs, _, k, r => by
    obtain ⟨v0, ps, rfl, h1, h2⟩ := r.cons_inv
    unfold repG
    rw [List.map_cons]
    cases e : eq k0 k with
    | true => rw [if_pos ((he _ _).mp e)]; exact .cons rd (repG_of he rd k h2)
    | false =>
      have hn : ¬ k0 = k := fun z => by rw [(he _ _).mpr z] at e; cases e
      rw [if_neg (show ¬ (k0, v0).1 = k from hn)]; exact .cons h1 (repG_of he rd k h2)
theorem putG_of (he : ∀ a b, eq a b = true ↔ a = b) {d : D} {v : V} (rd : Rep C M d v) {kds : List (κ × D)} {kvs : List (κ × V)} (k : κ) (r : RepG C M kds kvs) : RepG C M (putG eq kds k d) (putK kvs k v) := by
  have h := hasG_of he k r
  unfold putG putK
  cases e : hasG eq kds k with
  | true => rw [if_pos (by rw [← h]; exact e)]; exact repG_of he rd k r
  | false => rw [if_neg (by rw [← h, e]; decide)]; exact r.snoc rd
end

/-! ### o[i] = v -/
def onS (d : D) (S : Sto) (f : Nat → MO → Option Sto) : Option Sto := match d with
  | .ref n => (match S.at n with
    | some m => f n m
    | none => none)
  | _ => none
def ifS (b : Bool) (S : Sto) : Option Sto := match b with
  | true => some S
  | false => none
def setD {α : Type} : List α → Nat → α → List α
  | [], _, _ => []
  | _ :: r, 0, y => y :: r
  | x :: r, n + 1, y => x :: setD r n y
theorem setD_eq {α : Type} : ∀ (l : List α) (n : Nat) (y : α), setD l n y = l.set n y
  | [], n, y => rfl
  | x :: r, 0, y => rfl
  | x :: r, n + 1, y => by show x :: setD r n y = _; rw [setD_eq r n y]; rfl
/-- d[i] = v, d a dict of the store -/
def fPutD (o i v : D) (S : Sto) : Option Sto := onS o S fun n m => match m with
  | .dct kds => (match keyOf i with
    | some k => ifS (lineOk (kds.length + 1)) (S.set n (.dct (putG eqK kds k v)))
    | none => none)
  | .dtt kds => (match keyT i with
    | some k => ifS (lineOk (kds.length + 1)) (S.set n (.dtt (putG eqKs kds k v)))
    | none => none)
  | _ => none
def fPutL (o i v : D) (S : Sto) : Option Sto := onS o S fun n m => match m with
  | .lst xs => (match i with
    | .int k => (match placeD xs.length k with
      | some j => some (S.set n (.lst (setD xs j v)))
      | none => none)
    | _ => none)
  | _ => none
def fPut (o i v : D) (S : Sto) : Option Sto := match fPutL o i v S with
  | some S' => some S'
  | none => fPutD o i v S
section
variable {X : Cx} {C : Cfg} {W : XK}
theorem PSet.or {t t' : TSet} (h : PSet X t) (h' : PSet X t') : PSet X (fun o i v H Q => t o i v H Q ∨ t' o i v H Q) := by
  intro pins s σ H o i v ov iv u Q I ro ri rv q
  rcases q with q | q
  · exact h pins s σ H o i v ov iv u Q I ro ri rv q
  · exact h' pins s σ H o i v ov iv u Q I ro ri rv q
theorem RepL.set {M : Wd} {ds : List D} {vs : List V} {d : D} {v : V} (r : RepL C M ds vs) (h : Rep C M d v) : ∀ j : Nat, RepL C M (ds.set j d) (vs.set j v) := by
  induction ds generalizing vs with
  | nil => intro j; rw [r.nil_inv]; exact .nil
  | cons e ds ih =>
    intro j
    obtain ⟨u, us, rfl, h1, h2⟩ := r.cons_inv
    cases j with
    | zero => exact .cons h h2
    | succ j => exact .cons h1 (ih h2 j)
theorem dput_of {M : Wd} {S S' : Sto} {H : Hp} {o i v : D} {x y z : V} (s : Sim C M S H) (ro : Rep C M o x) (ri : Rep C M i y) (rv : Rep C M v z) (h : fPutD o i v S = some S') : ∃ a H', x = .ref a ∧ DPut H a y z H' ∧ Sim C M S' H' := by
  unfold fPutD onS at h
  split at h
  · rename_i n
    cases ro
    rename_i a hm
    split at h
    · rename_i m em
      obtain ⟨b, u, h1, h2, h3, h4⟩ := s.al n m em
      rw [hm] at h1; cases h1
      dsimp only at h
      split at h
      · rename_i kds
        obtain ⟨kvs, rfl, rx⟩ := h4
        split at h
        · rename_i k ek
          have hy := keyOf_of ri ek
          subst hy
          unfold ifS at h
          split at h
          · rename_i g
            cases h
            have rg : RepG C M kds kvs := rx
            exact ⟨a, _, rfl, .inl ⟨kvs, k, h2, rfl, by rw [← rg.length]; exact lineOk_lt g, rfl⟩, s.write em hm ⟨_, rfl, putG_of eqK_iff rv k rg⟩⟩
          · cases h
        · cases h
      · rename_i kds
        obtain ⟨kvs, rfl, rx⟩ := h4
        split at h
        · rename_i k ek
          obtain ⟨b, rfl, hb⟩ := keyT_of s ri ek
          unfold ifS at h
          split at h
          · rename_i g
            cases h
            have rg : RepG C M kds kvs := rx
            exact ⟨a, _, rfl, .inr ⟨kvs, k, b, h2, rfl, hb, by rw [← rg.length]; exact lineOk_lt g, rfl⟩, s.write em hm ⟨_, rfl, putG_of eqKs_iff rv k rg⟩⟩
          · cases h
        · cases h
      · cases h
    · cases h
  · cases h
theorem put_of {M : Wd} {S S' : Sto} {H : Hp} {o i v : D} {x y z : V} {Q : Hp → Prop} (s : Sim C M S H) (ro : Rep C M o x) (ri : Rep C M i y) (rv : Rep C M v z) (h : fPut o i v S = some S') (q : ∀ H', Sim C M S' H' → Q H') :
    rSetL x y z H Q ∨ rSetD x y z H Q := by
  unfold fPut at h
  split at h
  · rename_i S1 e
    cases h
    unfold fPutL onS at e
    split at e
    · rename_i n
      cases ro
      rename_i a hm
      split at e
      · rename_i m em
        obtain ⟨b, u, h1, h2, h3, h4⟩ := s.al n m em
        rw [hm] at h1; cases h1
        dsimp only at e
        split at e
        · rename_i xs
          obtain ⟨vs, rfl, rx⟩ := h4
          split at e
          · rename_i k
            split at e
            · rename_i j ej
              cases e
              cases ri
              rw [placeD_eq, rx.1] at ej
              rw [setD_eq] at q
              exact .inl ⟨a, vs, k, j, rfl, rfl, h2, ej, q _ (s.write em hm ⟨_, rfl, rx.set rv j⟩)⟩
            · cases e
          · cases e
        · cases e
      · cases e
    · cases e
  · obtain ⟨a, H', rfl, g, s'⟩ := dput_of s ro ri rv h
    exact .inr ⟨a, H', rfl, g, q H' s'⟩
/-- o[i] = v, as a statement: v first -/
def sPut (fv fo fi : DE) : DS := fun Γ S => (fv Γ S).then fun v S1 => (fo Γ S1).then fun o S2 => (fi Γ S2).then fun i S3 => match fPut o i v S3 with
  | some S4 => .nx Γ S4
  | none => .bad
theorem yput {o i e : Expr} {fv fo fi : DE} {pos tpos : Pos} (hu : X.A.units + 1 < cLine) (he : PE X e (tE C W fv)) (ho : PE X o (tE C W fo)) (hi : PE X i (tE C W fi))
    (hs : swapsWithSole [.Subscript o i tpos] e pos.line X.env = pure false := by rfl) (hw : swappedStores [.Subscript o i tpos] e X.env = pure none := by rfl)
    (h1 : (assignEach [.Subscript o i tpos] X.env).map (·.2) = [assign (.Subscript o i tpos) X.env] := by rfl)
    (ha : ∀ v, assign (.Subscript o i tpos) X.env v = (do let ov ← holding [v] (eval o X.env); let iv ← holding [v, ov] (eval i X.env); standAt tpos; holding [v, ov, iv] (setItem ov iv v); release [v, ov, iv] []) := by intro _; rfl) : PS X (.Assign [.Subscript o i tpos] e pos) (tS C W (sPut fv fo fi)) :=
  (ps_asg he (pg_sub ho hi (PSet.or set_list (set_dict hu)) ha) hs hw h1).by fun D σ H ⟨M, Γ, S, g, s, h⟩ => run1S g s h fun M1 v S1 z H1 l1 s1 r1 h1 =>
    run1S (g.mono l1) s1 h1 fun M2 o S2 x H2 l2 s2 r2 h2 => run1S (g.mono (l1.trans l2)) s2 h2 fun M3 i S3 y H3 l3 s3 r3 h3 => by
      split at h3
      · rename_i S4 e4
        exact put_of s3 (r2.mono l3) r3 (r1.mono (l2.trans l3)) e4 fun H' s' => h3.nxt (g.mono ((l1.trans l2).trans l3)) s'
      · exact h3.elim

/-! ### o.f = v -/
def fSetA (c j : Nat) (o v : D) (S : Sto) : Option Sto := onS o S fun n m => match m with
  | .ins c' fs => (match Nat.beq c' c with
    | true => ifS (Nat.blt fs.length 100) (S.set n (.ins c' (putA fs j v)))
    | false => none)
  | _ => none
def sSetA (c j : Nat) (fv fo : DE) : DS := fun Γ S => (fv Γ S).then fun v S1 => (fo Γ S1).then fun o S2 => match fSetA c j o v S2 with
  | some S3 => .nx Γ S3
  | none => .bad
theorem yseta {c j : Nat} {o e : Expr} {m : Str} {fv fo : DE} {pos tpos : Pos} (hK : X.K = C.K) (nd : C.an.Nodup) (hj : C.an[j]? = some m) (cl : Cls X.K (C.ga c)) (na : NoAttr X.K (C.ga c) m) (he : PE X e (tE C W fv)) (ho : PE X o (tE C W fo))
    (hs : swapsWith e (some (.Attribute o m tpos)) pos.line X.env = pure false := by rfl) : PS X (.Assign [.Attribute o m tpos] e pos) (tS C W (sSetA c j fv fo)) :=
  (ps_fld ho he hs).by fun D σ H ⟨M, Γ, S, g, s, h⟩ => run1S g s h fun M1 v S1 z H1 l1 s1 r1 h1 =>
    run1S (g.mono l1) s1 h1 fun M2 o S2 x H2 l2 s2 r2 h2 => by
      split at h2
      · rename_i S3 e3
        unfold fSetA onS at e3
        split at e3
        · rename_i n
          cases r2
          rename_i a hm
          split at e3
          · rename_i mo em
            obtain ⟨b, u, q1, q2, q3, q4⟩ := s2.al n mo em
            rw [hm] at q1; cases q1
            dsimp only at e3
            split at e3
            · rename_i c' fs
              obtain ⟨dx, fv', rfl, rf⟩ := q4
              split at e3
              · rename_i ec
                have := Nat.eq_of_beq_eq_true ec
                subst this
                unfold ifS at e3
                split at e3
                · rename_i gl
                  cases e3
                  have hl : fs.length < 100 := Nat.le_of_ble_eq_true gl
                  rw [rf.length] at hl
                  refine ⟨a, C.ga c', dx, fv', rfl, q2, cl, na, by omega, ?_⟩
                  exact h2.nxt (g.mono (l1.trans l2)) (s2.write em hm ⟨dx, _, rfl, putA_of nd hj (r1.mono l2) rf⟩)
                · cases e3
              · cases e3
            · cases e3
          · cases e3
        · cases e3
      · exact h2.elim
end
end Pd

namespace Pd
open PySem PySem.Spec L2

/-! ### dict displays -/
abbrev DP := Ga → Sto → Res (List (D × D))
def RepP (C : Cfg) (M : Wd) (ps : List (D × D)) (vs : List (V × V)) : Prop := Paired (fun p q => Rep C M p.1 q.1 ∧ Rep C M p.2 q.2) ps vs
def GoodP (C : Cfg) (M : Wd) (r : Res (List (D × D))) (Q : List (V × V) → Hp → Prop) (E : XK) : Prop := match r with
  | .ok a S => ∀ M' vs H', M.le M' → Sim C M' S H' → RepP C M' a vs → Q vs H'
  | .exc c fs S => ∀ M' cls dd H', M.le M' → Sim C M' S H' → RepX C M' H' cls dd c fs → E cls dd H'
  | .bad => False
abbrev TPp := St → Hp → (List (V × V) → Hp → Prop) → Prop
def tP (C : Cfg) (W : XK) (f : DP) : TPp := fun σ H Q => ∃ M Γ S, SimG C M Γ σ ∧ Sim C M S H ∧ GoodP C M (f Γ S) Q W
/-- the pairs of a display, by a reading -/
structure PPd (X : Cx) (pos : Pos) (ks : List (Option Expr)) (es : List Expr) (t : TPp) : Prop where
  go : ∀ (pn : List (Addr × Obj)) (s0 : Shared) (σ0 : St) (H0 : Hp) (R : List (V × V) → Hp → Prop), Inv X pn σ0 H0 s0 → t σ0 H0 R →
    wpAny (model X.prog X.w) X.A (evalPairs (pairTrees ks es X.env pos)) (fun us s1 => ∃ qs H1, Inv X pn σ0 H1 s1 ∧ VV qs us ∧ R qs H1) X.xe s0
section
variable {X : Cx} {C : Cfg} {W : XK} {pos : Pos}
theorem RepP.mono {M M' : Wd} (l : M.le M') {ps : List (D × D)} {vs : List (V × V)} (r : RepP C M ps vs) : RepP C M' ps vs := Paired.mapP r fun _ _ h => ⟨h.1.mono l, h.2.mono l⟩
theorem GoodP.mono {M M' : Wd} (l : M.le M') {r : Res (List (D × D))} {Q : List (V × V) → Hp → Prop} (g : GoodP C M r Q W) : GoodP C M' r Q W := by
  cases r with
  | ok a S => exact fun M2 v H' l2 => g M2 v H' (l.trans l2)
  | exc c fs S => exact fun M2 c' d H' l2 => g M2 c' d H' (l.trans l2)
  | bad => exact g
def pNil : DP := fun _ S => .ok [] S
def pCons (fk fv : DE) (fp : DP) : DP := fun Γ S => (fk Γ S).bind fun k S1 => (fv Γ S1).bind fun v S2 => (fp Γ S2).bind fun ps S3 => .ok ((k, v) :: ps) S3
theorem ppnil : PPd X pos [] [] (tP C W pNil) := ⟨fun pn s0 σ0 H0 R I h => by
  obtain ⟨M, Γ, S, g, s, h⟩ := h
  exact pairTrees_nil_walk ⟨[], H0, I, .nil, h M [] H0 (.refl M) s .nil⟩⟩
/-- from an expression to the pairs -/
theorem run1P {M : Wd} {Γ : Ga} {S : Sto} {σ : St} {H : Hp} {fa : DE} {f : D → Sto → Res (List (D × D))} {Q : List (V × V) → Hp → Prop} {K1 : V → Hp → Prop} (g : SimG C M Γ σ) (s : Sim C M S H) (h : GoodP C M ((fa Γ S).bind fun a S1 => f a S1) Q W)
    (k : ∀ M' a S' x H', M.le M' → Sim C M' S' H' → Rep C M' a x → GoodP C M' (f a S') Q W → K1 x H') : tE C W fa σ H K1 := by
  refine ⟨M, Γ, S, g, s, ?_⟩
  cases ea : fa Γ S with
  | bad => rw [ea] at h; exact h
  | exc c fs S1 => rw [ea] at h; exact h
  | ok a S1 =>
    rw [ea] at h
    intro M1 x H1 l1 s1 r1
    exact k M1 a S1 x H1 l1 s1 r1 (GoodP.mono l1 h)
theorem ppcons {k v : Expr} {ks : List (Option Expr)} {es : List Expr} {fk fv : DE} {fp : DP} (hk : PE X k (tE C W fk)) (hv : PE X v (tE C W fv)) (hr : PPd X pos ks es (tP C W fp)) : PPd X pos (some k :: ks) (v :: es) (tP C W (pCons fk fv fp)) := ⟨fun pn s0 σ0 H0 R I h => by
  obtain ⟨M, Γ, S, g, s, h⟩ := h
  have t0 : tE C W fk σ0 H0 fun x H1 => tE C W fv σ0 H1 fun y H2 => tP C W fp σ0 H2 fun qs H3 => R ((x, y) :: qs) H3 :=
    run1P g s h fun M1 a S1 x H1 l1 s1 r1 h1 => run1P (g.mono l1) s1 h1 fun M2 b S2 y H2 l2 s2 r2 h2 => by
      refine ⟨M2, Γ, S2, g.mono (l1.trans l2), s2, ?_⟩
      cases ep : fp Γ S2 with
      | bad => rw [ep] at h2; exact h2
      | exc c fs S3 => rw [ep] at h2; exact h2
      | ok ps S3 =>
        rw [ep] at h2
        intro M3 qs H3 l3 s3 r3
        exact h2 M3 ((x, y) :: qs) H3 l3 s3 (.cons ⟨r1.mono (l2.trans l3), r2.mono l3⟩ r3)
  exact pairTrees_cons_walk (thn (hk.run pn s0 σ0 H0 _ I t0) fun u s1 ⟨x, H1, I1, rx, t1⟩ => thn (hv.run pn s1 σ0 H1 _ I1 t1) fun u2 s2 ⟨y, H2, I2, ry, t2⟩ =>
    thn (hr.go pn s2 σ0 H2 _ I2 t2) fun us s3 ⟨qs, H3, I3, rel, t3⟩ => ⟨(x, y) :: qs, H3, I3, .cons ⟨rx, ry⟩ rel, t3⟩)⟩

/-- a pair is laid into a dict, by the walk's own means -/
theorem laid_one {pn : List (Addr × Obj)} {σ : St} {H H' : Hp} {s : Shared} {E : Value → Shared → Prop} {a : Addr} {y z : V} {u r : Value} {R : PUnit → Shared → Prop} (hu : X.A.units < cLine) (I : Inv X pn σ H s) (g : DPut H a y z H') (ry : RelV y u) (rz : RelV z r) (k : ∀ s', Inv X pn σ H' s' → R () s') :
    wpAny (model X.prog X.w) X.A (dictSet a u r) R E s := by
  rcases g with ⟨kvs, key, e, rfl, l, rfl⟩ | ⟨kvs, key, b, e, rfl, eb, l, rfl⟩
  · exact d_dictSet I e l ry rz k
  · cases ry
    obtain ⟨z0, hd, xs, rel, dd⟩ := dt_of I.hok e
    have few : (putK kvs key z).length ≤ sizeLine := Nat.le_trans (length_putK kvs key z) l
    refine wpAny_dictSet_heap (knd := tupleKind (mixKind X.prog X.w)) (hsz := by rw [← Paired.length rel]; exact z0) hu (key_of I.hok eb) dd fun h1 dd1 sb => k _ ?_
    obtain ⟨q, es, ep, hq, g1, g2, g3, _, g4⟩ := dd1
    have still : ∀ c ys, H c = some (.tup ys) → upd H a (.dT (putK kvs key z)) c = some (.tup ys) := fun c ys ec => (upd_ne (fun w => by rw [w, e] at ec; cases ec)).trans ec
    exact d_write I (by rw [e]; exact True.intro) sb ⟨q, hq⟩ ⟨few, hd, _, (rel.put key eb rz).keeps still, q, es, ep, hq, g1, g2, g3, g4⟩
def putAll (n : Nat) : List (D × D) → Sto → Option Sto
  | [], S => some S
  | (k, v) :: r, S => (match fPutD (.ref n) k v S with
    | some S1 => putAll n r S1
    | none => none)
theorem laid_all {pn : List (Addr × Obj)} {σ : St} {E : Value → Shared → Prop} {a : Addr} {n : Nat} {R : PUnit → Shared → Prop} (hu : X.A.units < cLine) {M : Wd} (hm : M.mu n = some a) : ∀ {ps : List (D × D)} {vs : List (V × V)} {us : List (Value × Value)} {S S' : Sto} {H : Hp} {s : Shared}, Inv X pn σ H s → Sim C M S H → RepP C M ps vs → VV vs us → putAll n ps S = some S' →
    (∀ H' s', Inv X pn σ H' s' → Sim C M S' H' → R () s') → wpAny (model X.prog X.w) X.A (storeAll a us) R E s
  | [], _, _, S, S', H, s, I, sm, r, rv, e, k => by
    cases r
    cases rv
    cases e
    unfold storeAll
    rw [List.forIn_nil]
    exact wpAny_pure (k H s I sm)
  | (d1, d2) :: ps, _, _, S, S', H, s, I, sm, r, rv, e, k => by
    cases r with
    | cons r1 rr =>
      cases rv with
      | cons v1 vr =>
        unfold putAll at e
        split at e
        · rename_i S1 e1
          obtain ⟨b, H1, eb, g, sm1⟩ := dput_of sm (.ref hm) r1.1 r1.2 e1
          cases eb
          unfold storeAll
          rw [List.forIn_cons]
          exact wpAny_bind (wpAny_bind (laid_one hu I g v1.1 v1.2 fun s1 I1 => wpAny_pure (laid_all hu hm I1 sm1 rr vr e k)))
        · cases e
def few15 : List (Option Expr) → Bool := fun l => Nat.ble l.length 15
def newD (b : Bool) : MO := match b with
  | true => .dtt []
  | false => .dct []
/-- {k: v, ..}; b: the keys are tuples -/
def dDisp (b : Bool) (fp : DP) : DE := fun Γ S => (fp Γ (S.new (newD b))).bind fun ps S1 => match putAll S.nx ps S1 with
  | some S2 => .ok (.ref S.nx) S2
  | none => .bad
theorem xdisp (b : Bool) {ks : List (Option Expr)} {es : List Expr} {fp : DP} (hu : X.A.units < cLine) (h : PPd X pos ks es (tP C W fp)) (hall : ks.all (·.isSome) = true := by rfl) (hl : ks.length = es.length := by rfl) (h0 : ks ≠ [] := by exact fun z => nomatch z) (h15 : few15 ks = true := by rfl) :
    PE X (.Dict ks es pos) (tE C W (dDisp b fp)) := ⟨fun pn s0 σ0 H0 Q I q => by
  obtain ⟨M, Γ, S, g, sm, q⟩ := q
  have hn := I.hok.fresh (Nat.le_refl s0.heap.objs.size)
  refine wpAny_Dict_any hall hl h0 (Nat.le_of_ble_eq_true h15) ?_
  have start : ∃ o, RepM C M (newD b) o ∧ Inv X pn σ0 (upd H0 s0.heap.objs.size o) { s0 with heap := s0.heap.push { cls := .type "dict", data := .dict #[] } } := by
    cases b with
    | true => exact ⟨.dT [], ⟨[], rfl, RepG.nil⟩, I.laid (t' := s0.toks) (fun _ _ e => Heap.get?_push_of_some _ e) (Nat.le_refl _) (dt_empty s0.heap I.big)⟩
    | false => exact ⟨.dK [], ⟨[], rfl, RepG.nil⟩, I.laid (t' := s0.toks) (fun _ _ e => Heap.get?_push_of_some _ e) (Nat.le_refl _) (dk_empty s0.heap I.big)⟩
  obtain ⟨o, ro, I1⟩ := start
  have l1 := Wd.bind_le sm (a := s0.heap.objs.size)
  have sm1 := sm.bindNew hn ro
  have hm : (M.bind S.nx s0.heap.objs.size).mu S.nx = some s0.heap.objs.size := if_pos rfl
  have t : tP C W fp σ0 (upd H0 s0.heap.objs.size o) fun qs H2 => ∃ M2 S1 S2 ps, (M.bind S.nx s0.heap.objs.size).le M2 ∧ Sim C M2 S1 H2 ∧ RepP C M2 ps qs ∧ putAll S.nx ps S1 = some S2 ∧ GoodE C M2 (.ok (.ref S.nx) S2) Q W := by
    refine ⟨_, Γ, S.new (newD b), g.mono l1, sm1, ?_⟩
    unfold dDisp at q
    cases ep : fp Γ (S.new (newD b)) with
    | bad => rw [ep] at q; exact q
    | exc c fs S1 => rw [ep] at q; exact fun M2 c' d H' l s r => q M2 c' d H' (l1.trans l) s r
    | ok ps S1 =>
      rw [ep] at q
      intro M2 qs H2 l2 s2 r2
      have q : GoodE C M (match putAll S.nx ps S1 with
        | some S2 => .ok (.ref S.nx) S2
        | none => .bad) Q W := q
      split at q
      · rename_i S2 e2
        exact ⟨M2, S1, S2, ps, l2, s2, r2, e2, q.mono (l1.trans l2)⟩
      · exact q.elim
  refine thn (h.go pn _ σ0 _ _ I1 t) fun us s2 ⟨qs, H2, I2, rel, M2, S1, S2, ps, l2, sm2, rp, ea, q2⟩ => ?_
  have hm2 := l2.2.1 _ _ hm
  exact laid_all hu hm2 I2 sm2 rp rel ea fun H3 s3 I3 sm3 => ⟨.ref s0.heap.objs.size, H3, I3, rfl, q2.ok sm3 (.ref hm2)⟩⟩
/-- {} -/
def dNewD (b : Bool) : DE := fun _ S => .ok (.ref S.nx) (S.new (newD b))
theorem xnewd (b : Bool) : PE X (.Dict [] [] pos) (tE C W (dNewD b)) := by
  cases b with
  | true => exact pe_dnewT.by fun σ H Q ⟨M, Γ, S, g, s, h⟩ => fun p hp => newSto h s ⟨[], rfl, RepG.nil⟩ hp
  | false => exact pe_dnewK.by fun σ H Q ⟨M, Γ, S, g, s, h⟩ => fun p hp => newSto h s ⟨[], rfl, RepG.nil⟩ hp
end
end Pd

namespace Pd
open PySem PySem.Spec L2

/-! ### dict.get -/
def getD (a b : D) (S : Sto) : Option (Option D) := match dttV S a with
  | some kds => (match keyT b with
    | some k => some (lookT kds k)
    | none => none)
  | none => (match dctV S a with
    | some kds => (match keyOf b with
      | some k => some (lookK kds k)
      | none => none)
    | none => none)
def isD (S : Sto) (d : D) : Bool := match dttV S d with
  | some _ => true
  | none => (match dctV S d with
    | some _ => true
    | none => false)
section
variable {X : Cx} {C : Cfg} {W : XK} {M : Wd} {S : Sto} {H : Hp} {a b : D} {x y : V}
def RepO (C : Cfg) (M : Wd) (o : Option D) (ov : Option V) : Prop := match o with
  | some d => ∃ v, ov = some v ∧ Rep C M d v
  | none => ov = none
theorem isD_of (s : Sim C M S H) (r : Rep C M a x) (h : isD S a = true) : ∃ p, x = .ref p ∧ IsD H p := by
  unfold isD at h
  split at h
  · rename_i k e
    obtain ⟨p, kvs, rfl, h1, _⟩ := dtt_of s r e
    exact ⟨p, rfl, .inr ⟨kvs, h1⟩⟩
  · split at h
    · rename_i k e
      obtain ⟨p, kvs, rfl, h1, _⟩ := dct_of s r e
      exact ⟨p, rfl, .inl ⟨kvs, h1⟩⟩
    · cases h
theorem getD_of {o : Option D} (s : Sim C M S H) (ra : Rep C M a x) (rb : Rep C M b y) (h : getD a b S = some o) : ∃ p ov, x = .ref p ∧ DGet H p y ov ∧ RepO C M o ov := by
  unfold getD at h
  split at h
  · rename_i kds e
    split at h
    · rename_i k ek
      cases h
      obtain ⟨p, kvs, rfl, h1, r1⟩ := dtt_of s ra e
      obtain ⟨q, rfl, hq⟩ := keyT_of s rb ek
      exact ⟨p, valV kvs k, rfl, .inr ⟨kvs, k, q, h1, rfl, hq, rfl⟩, lookT_of k r1⟩
    · cases h
  · split at h
    · rename_i kds e
      split at h
      · rename_i k ek
        cases h
        obtain ⟨p, kvs, rfl, h1, r1⟩ := dct_of s ra e
        have hy := keyOf_of rb ek
        subst hy
        exact ⟨p, valV kvs k, rfl, .inl ⟨kvs, k, h1, rfl, rfl⟩, lookK_of k r1⟩
      · cases h
    · cases h
end
def dGet1 (fo fi : DE) : DE := fun Γ S => (fo Γ S).bind fun a S1 => guard (isD S1 a) ((fi Γ S1).bind fun b S2 => match getD a b S2 with
  | some (some d) => .ok d S2
  | some none => .ok .non S2
  | none => .bad)
def dGet2 (fo fi ff : DE) : DE := fun Γ S => (fo Γ S).bind fun a S1 => guard (isD S1 a) ((fi Γ S1).bind fun b S2 => (ff Γ S2).bind fun z S3 => match getD a b S3 with
  | some (some d) => .ok d S3
  | some none => .ok z S3
  | none => .bad)
section
variable {X : Cx} {C : Cfg} {W : XK} {o e f : Expr} {fo fi ff : DE} {apos cpos : Pos}
theorem xget1 (hu : X.A.units + 1 < cLine) (ho : PE X o (tE C W fo)) (hi : PE X e (tE C W fi)) (m : L2.M1 X o "get" apos e cpos) : PE X (.Call (.Attribute o "get" apos) [e] [] cpos) (tE C W (dGet1 fo fi)) :=
  (pe_dget1 hu ho hi m).by fun σ H Q ⟨M, Γ, S, g, s, h⟩ => run1 g s h fun M1 a S1 x H1 l1 s1 r1 h1 => by
    obtain ⟨gd, h1⟩ := guard_ok h1
    obtain ⟨p, rfl, hp⟩ := isD_of s1 r1 gd
    refine ⟨p, rfl, hp, run1 (g.mono l1) s1 h1 fun M2 b S2 y H2 l2 s2 r2 h2 => ?_⟩
    split at h2
    · rename_i d e
      obtain ⟨p', ov, ep, hg, v, rfl, rv⟩ := getD_of s2 (r1.mono l2) r2 e
      cases ep
      exact ⟨_, hg, h2.ok s2 rv⟩
    · rename_i e
      obtain ⟨p', ov, ep, hg, eo⟩ := getD_of s2 (r1.mono l2) r2 e
      cases ep
      exact ⟨_, hg, by rw [show ov = none from eo]; exact h2.ok s2 .non⟩
    · exact h2.elim
theorem xget2 (hu : X.A.units + 1 < cLine) (ho : PE X o (tE C W fo)) (hi : PE X e (tE C W fi)) (hf : PE X f (tE C W ff)) (m : L2.M2 X o "get" apos e f cpos) : PE X (.Call (.Attribute o "get" apos) [e, f] [] cpos) (tE C W (dGet2 fo fi ff)) :=
  (pe_dget2 hu ho hi hf m).by fun σ H Q ⟨M, Γ, S, g, s, h⟩ => run1 g s h fun M1 a S1 x H1 l1 s1 r1 h1 => by
    obtain ⟨gd, h1⟩ := guard_ok h1
    obtain ⟨p, rfl, hp⟩ := isD_of s1 r1 gd
    refine ⟨p, rfl, hp, run1 (g.mono l1) s1 h1 fun M2 b S2 y H2 l2 s2 r2 h2 => run1 (g.mono (l1.trans l2)) s2 h2 fun M3 z S3 w H3 l3 s3 r3 h3 => ?_⟩
    split at h3
    · rename_i d e
      obtain ⟨p', ov, ep, hg, v, rfl, rv⟩ := getD_of s3 (r1.mono (l2.trans l3)) (r2.mono l3) e
      cases ep
      exact ⟨_, hg, h3.ok s3 rv⟩
    · rename_i e
      obtain ⟨p', ov, ep, hg, eo⟩ := getD_of s3 (r1.mono (l2.trans l3)) (r2.mono l3) e
      cases ep
      exact ⟨_, hg, by rw [show ov = none from eo]; exact h3.ok s3 r3⟩
    · exact h3.elim
end

/-! ### slices -/
abbrev DO := Ga → Sto → Res (Option Int)
def GoodO (C : Cfg) (M : Wd) (r : Res (Option Int)) (Q : Option Int → Hp → Prop) (E : XK) : Prop := match r with
  | .ok a S => ∀ M' H', M.le M' → Sim C M' S H' → Q a H'
  | .exc c fs S => ∀ M' cls dd H', M.le M' → Sim C M' S H' → RepX C M' H' cls dd c fs → E cls dd H'
  | .bad => False
def PtD (X : Cx) (C : Cfg) (W : XK) (lo : Option Expr) (f : DO) : Prop := ∃ t, PO X lo t ∧ ∀ σ H R, (∃ M Γ S, SimG C M Γ σ ∧ Sim C M S H ∧ GoodO C M (f Γ S) R W) → t σ H R
def oNone : DO := fun _ S => .ok none S
def ixO (d : D) (S : Sto) : Res (Option Int) := match d with
  | .int i => .ok (some i) S
  | _ => .bad
def oSome (fa : DE) : DO := fun Γ S => (fa Γ S).bind ixO
section
variable {X : Cx} {C : Cfg} {W : XK}
theorem GoodO.mono {M M' : Wd} (l : M.le M') {r : Res (Option Int)} {Q : Option Int → Hp → Prop} (g : GoodO C M r Q W) : GoodO C M' r Q W := by
  cases r with
  | ok a S => exact fun M2 H' l2 => g M2 H' (l.trans l2)
  | exc c fs S => exact fun M2 c' d H' l2 => g M2 c' d H' (l.trans l2)
  | bad => exact g
theorem ptnone : PtD X C W none oNone := ⟨_, po_none, fun σ H R ⟨M, Γ, S, g, s, h⟩ => h M H (.refl M) s⟩
theorem ptsome {e : Expr} {fa : DE} (he : PE X e (tE C W fa)) : PtD X C W (some e) (oSome fa) := ⟨_, po_some he, fun σ H R ⟨M, Γ, S, g, s, h⟩ => by
  refine ⟨M, Γ, S, g, s, ?_⟩
  unfold oSome at h
  cases ea : fa Γ S with
  | bad => rw [ea] at h; exact h
  | exc c fs S1 => rw [ea] at h; exact h
  | ok d S1 =>
    rw [ea] at h
    intro M1 x H1 l1 s1 r1
    have h : GoodO C M (ixO d S1) R W := h
    unfold ixO at h
    split at h
    · cases r1; exact ⟨_, rfl, h M1 H1 l1 s1⟩
    · exact h.elim⟩
end
def sixD (n d : Nat) : Option Int → Nat
  | none => d
  | some (.ofNat k) => (match Nat.ble k n with
    | true => k
    | false => n)
  | some (.negSucc k) => n - (k + 1)
theorem sixD_eq (n d : Nat) : ∀ o, sixD n d o = HT.sIx n d o
  | none => rfl
  | some (.ofNat k) => by
    have e0 : HT.sIx n d (some (Int.ofNat k)) = min k n := HT.sIx_nat n d k
    rw [e0]
    show (match Nat.ble k n with
      | true => k
      | false => n) = min k n
    cases e : Nat.ble k n with
    | true => rw [Nat.min_eq_left (Nat.le_of_ble_eq_true e)]
    | false =>
      have hn : ¬ k ≤ n := fun z => by rw [Nat.ble_eq_true_of_le z] at e; cases e
      rw [Nat.min_eq_right (by omega)]
  | some (.negSucc k) => by
    show n - (k + 1) = if (Int.negSucc k) < 0 then (Int.negSucc k + (n : Int)).toNat else _
    rw [if_pos (Int.negSucc_lt_zero k)]
    omega
def cutD {α : Type} (xs : List α) (lo hi : Option Int) : List α := (xs.drop (sixD xs.length 0 lo)).take (sixD xs.length xs.length hi - sixD xs.length 0 lo)
/-- not the whole of it -/
def partD (n : Nat) (lo hi : Option Int) : Bool := match Nat.beq (sixD n 0 lo) 0 with
  | true => !(Nat.beq (sixD n n hi) n)
  | false => true
def fSl (a : D) (lo hi : Option Int) (S : Sto) : Res D := match a with
  | .str z => guard (lineOk z.length) (.ok (.str ⟨(cutD z.cps.toList lo hi).toArray⟩) S)
  | a => (match tupV a with
    | some ds => guard (partD ds.length lo hi) (.ok (.tup (cutD ds lo hi)) S)
    | none => (match lstV S a with
      | some ds => .ok (.ref S.nx) (S.new (.lst (cutD ds lo hi)))
      | none => .bad))
def dSl (fa : DE) (fl fh : DO) : DE := fun Γ S => (fa Γ S).bind fun a S1 => (fl Γ S1).bind fun lo S2 => (fh Γ S2).bind fun hi S3 => fSl a lo hi S3
section
variable {X : Cx} {C : Cfg} {W : XK}
theorem RepL.drop {M : Wd} {ds : List D} {vs : List V} (r : RepL C M ds vs) : ∀ n : Nat, RepL C M (ds.drop n) (vs.drop n) := by
  induction ds generalizing vs with
  | nil => intro n; rw [r.nil_inv, List.drop_nil, List.drop_nil]; exact .nil
  | cons d ds ih =>
    intro n
    obtain ⟨v, us, rfl, h1, h2⟩ := r.cons_inv
    cases n with
    | zero => exact .cons h1 h2
    | succ n => exact ih h2 n
theorem RepL.take {M : Wd} {ds : List D} {vs : List V} (r : RepL C M ds vs) : ∀ n : Nat, RepL C M (ds.take n) (vs.take n) := by
  induction ds generalizing vs with
  | nil => intro n; rw [r.nil_inv, List.take_nil, List.take_nil]; exact .nil
  | cons d ds ih =>
    intro n
    obtain ⟨v, us, rfl, h1, h2⟩ := r.cons_inv
    cases n with
    | zero => exact .nil
    | succ n => exact .cons h1 (ih h2 n)
theorem RepL.cut {M : Wd} {ds : List D} {vs : List V} (r : RepL C M ds vs) (lo hi : Option Int) : RepL C M (cutD ds lo hi) (cutV vs lo hi) := by
  unfold cutD cutV
  rw [← r.1, sixD_eq, sixD_eq]
  exact (r.drop _).take _
/-- a part of a slice is run -/
theorem runO {M : Wd} {Γ : Ga} {S : Sto} {σ : St} {H : Hp} {lo : Option Expr} {fl : DO} {t : TO} {f : Option Int → Sto → Res D} {Q : VK} {K1 : Option Int → Hp → Prop} (k0 : ∀ σ H R, (∃ M Γ S, SimG C M Γ σ ∧ Sim C M S H ∧ GoodO C M (fl Γ S) R W) → t σ H R) (g : SimG C M Γ σ) (s : Sim C M S H) (h : GoodE C M ((fl Γ S).bind fun a S1 => f a S1) Q W)
    (k : ∀ M' a S' H', M.le M' → Sim C M' S' H' → GoodE C M' (f a S') Q W → K1 a H') : t σ H K1 := by
  refine k0 σ H K1 ⟨M, Γ, S, g, s, ?_⟩
  cases ea : fl Γ S with
  | bad => rw [ea] at h; exact h
  | exc c fs S1 => rw [ea] at h; exact h
  | ok a S1 =>
    rw [ea] at h
    intro M1 H1 l1 s1
    exact k M1 a S1 H1 l1 s1 (GoodE.mono l1 h)
theorem xsl {e : Expr} {lo hi : Option Expr} {p2 pos : Pos} {fa : DE} {fl fh : DO} (hK : X.K = C.K) (he : PE X e (tE C W fa)) (hl : PtD X C W lo fl) (hh : PtD X C W hi fh) : PE X (.Subscript e (.Slice lo hi none p2) pos) (tE C W (dSl fa fl fh)) := by
  obtain ⟨tl, h1, k1⟩ := hl
  obtain ⟨th, h2, k2⟩ := hh
  refine (pe_slice (sl_list.or (sl_tup.or sl_str)) he h1 h2).by fun σ H Q ⟨M, Γ, S, g, s, h⟩ => run1 g s h fun M1 a S1 x H1 l1 s1 r1 h1 => ?_
  refine runO (lo := lo) k1 (g.mono l1) s1 h1 fun M2 lo S2 H2 l2 s2 h2 => runO (lo := hi) k2 (g.mono (l1.trans l2)) s2 h2 fun M3 hi S3 H3 l3 s3 h3 => ?_
  have r3 := r1.mono (l2.trans l3)
  rw [hK]
  unfold fSl at h3
  split at h3
  · obtain ⟨gd, h3⟩ := guard_ok h3
    cases r3
    refine .inr (.inr ⟨_, rfl, lineOk_ok gd, ?_⟩)
    have e1 : ∀ z : Str, cutS z lo hi = ⟨(cutD z.cps.toList lo hi).toArray⟩ := fun z => by
      unfold cutS cutD
      rw [sixD_eq, sixD_eq, Array.length_toList]
      rfl
    rw [e1]
    exact h3.ok s3 (.str _)
  · split at h3
    · rename_i ds e
      obtain ⟨gd, h3⟩ := guard_ok h3
      obtain ⟨p, vs, rfl, hs, rl⟩ := tup_of s3 r3 e
      refine .inr (.inl ⟨p, vs, rfl, hs, ?_, fun q hq => newTup h3 s3 (rl.cut lo hi) hq⟩)
      rw [← rl.1, ← sixD_eq, ← sixD_eq]
      rintro ⟨z1, z2⟩
      unfold partD at gd
      rw [z1, z2, Nat.beq_refl, Nat.beq_refl] at gd
      cases gd
    · split at h3
      · rename_i ds e
        obtain ⟨p, vs, rfl, hs, rl⟩ := lst_of s3 r3 e
        exact .inl ⟨p, vs, rfl, hs, fun q hq => newSto h3 s3 ⟨_, rfl, rl.cut lo hi⟩ hq⟩
      · exact h3.elim
end
end Pd

namespace Pd
open PySem PySem.Spec L2

/-! ### len, list, tuple, all, any -/
def lenD (S : Sto) (d : D) : Option Nat := match d with
  | .str z => (match lineOk z.length with
    | true => some z.length
    | false => none)
  | d => (match seqV S d with
    | some ds => some ds.length
    | none => (match dctV S d with
      | some ks => some ks.length
      | none => (match dttV S d with
        | some ks => some ks.length
        | none => none)))
def gLen : List D → Sto → Res D := fun ds S => match ds with
  | [d] => (match lenD S d with
    | some n => .ok (.int n) S
    | none => .bad)
  | _ => .bad
def keyD : Key → D
  | .inl i => .int i
  | .inr x => .str x
def keysD : List (Key × D) → List D
  | [] => []
  | (k, _) :: r => keyD k :: keysD r
def gList : List D → Sto → Res D := fun ds S => match ds with
  | [d] => (match seqV S d with
    | some xs => .ok (.ref S.nx) (S.new (.lst xs))
    | none => (match dctV S d with
      | some ks => .ok (.ref S.nx) (S.new (.lst (keysD ks)))
      | none => .bad))
  | _ => .bad
def gTuple : List D → Sto → Res D := fun ds S => match ds with
  | [d] => (match tupV d with
    | some _ => .ok d S
    | none => (match lstV S d with
      | some xs => .ok (.tup xs) S
      | none => .bad))
  | _ => .bad
def boolsD : List D → Option (List Bool)
  | [] => some []
  | .bl b :: r => (match boolsD r with
    | some bs => some (b :: bs)
    | none => none)
  | _ => none
def allB : List Bool → Bool
  | [] => true
  | b :: r => (match b with
    | true => allB r
    | false => false)
def anyB : List Bool → Bool
  | [] => false
  | b :: r => (match b with
    | true => true
    | false => anyB r)
theorem allB_eq : ∀ bs, allB bs = bs.all id
  | [] => rfl
  | true :: bs => by show allB bs = _; rw [allB_eq bs]; rfl
  | false :: bs => rfl
theorem anyB_eq : ∀ bs, anyB bs = bs.any id
  | [] => rfl
  | false :: bs => by show anyB bs = _; rw [anyB_eq bs]; rfl
  | true :: bs => rfl
def gBools (f : List Bool → Bool) : List D → Sto → Res D := fun ds S => match ds with
  | [d] => (match lstV S d with
    | some xs => (match boolsD xs with
      | some bs => .ok (.bl (f bs)) S
      | none => .bad)
    | none => .bad)
  | _ => .bad
section
variable {X : Cx} {C : Cfg} {W : XK}
theorem CaD.or {f : Value} {r r' : List V → Hp → VK → Prop} (h : CallR X f r) (h' : CallR X f r') : CallR X f (fun xs H Q => r xs H Q ∨ r' xs H Q) := CallR.or h h'
theorem call_lenDR : CallR X (.builtin "len") (fun xs H Q => ∃ (a : Addr) (kvs : List (Key × V)), xs = [V.ref a] ∧ Rd H a (.dK kvs) ∧ Q (.int kvs.length) H) := by
  intro pins s σ H xs us Q I r h; obtain ⟨a, kvs, rfl, e, q⟩ := h
  obtain rfl := Vals.ref1 r
  exact d_len I e fun t s' I' => ⟨.int kvs.length, H, I', ⟨t, rfl⟩, q⟩
theorem call_lenTR : CallR X (.builtin "len") (fun xs H Q => ∃ (a : Addr) (kvs : List (List Key × V)), xs = [V.ref a] ∧ Rd H a (.dT kvs) ∧ Q (.int kvs.length) H) := by
  intro pins s σ H xs us Q I r h; obtain ⟨a, kvs, rfl, e, q⟩ := h
  obtain rfl := Vals.ref1 r
  obtain ⟨few, hd, ys, rel, dd⟩ := dt_rd I.hok e
  have same : kvs.length = ys.length := Paired.length rel
  have small : (ys.length : Int) < 2 ^ 63 := by rw [← same]; rw [sizeLine_eq] at few; omega
  refine call_len_dictH hd dd small ?_
  rw [← same]
  exact ⟨.int kvs.length, H, I.tok _, ⟨_, rfl⟩, q⟩
theorem one_of {M : Wd} {d : D} {vs : List V} (r : RepL C M [d] vs) : ∃ v, vs = [v] ∧ Rep C M d v := by
  obtain ⟨v, us, rfl, h1, h2⟩ := r.cons_inv
  exact ⟨v, by rw [h2.nil_inv], h1⟩
theorem cLen (hK : X.K = C.K) : CaD X C W (.builtin "len") gLen := by
  refine ⟨_, CallR.or call_len_seq (CallR.or call_len_str (CallR.or call_lenDR call_lenTR)), fun M S H ds vs Q s r q => ?_⟩
  rw [hK]
  unfold gLen at q
  split at q
  · rename_i d
    obtain ⟨v, rfl, rd⟩ := one_of r
    split at q
    · rename_i n e
      unfold lenD at e
      split at e
      · rename_i z
        split at e
        · rename_i g
          cases e; cases rd
          exact .inr (.inl ⟨z, rfl, lineOk_ok g, q.ok s (.int _)⟩)
        · cases e
      · split at e
        · rename_i xs e1
          cases e
          obtain ⟨a, us, rfl, h1, h2⟩ := seq_of s rd e1
          rw [h2.1] at q
          exact .inl ⟨a, us, rfl, h1, q.ok s (.int _)⟩
        · split at e
          · rename_i ks e1
            cases e
            obtain ⟨a, us, rfl, h1, h2⟩ := dct_of s rd e1
            have h3 : RepG C M ks us := h2
            rw [h3.length] at q
            exact .inr (.inr (.inl ⟨a, us, rfl, h1, q.ok s (.int _)⟩))
          · split at e
            · rename_i ks e1
              cases e
              obtain ⟨a, us, rfl, h1, h2⟩ := dtt_of s rd e1
              have h3 : RepG C M ks us := h2
              rw [h3.length] at q
              exact .inr (.inr (.inr ⟨a, us, rfl, h1, q.ok s (.int _)⟩))
            · cases e
    · exact q.elim
  · exact q.elim
theorem keysD_of {M : Wd} : ∀ {kds : List (Key × D)} {kvs : List (Key × V)}, RepG C M kds kvs → RepL C M (keysD kds) (kvs.map fun kv => kV kv.1)
  | [], _, r => by rw [r.nil_inv]; exact .nil
  | (k, d) :: rs, _, r => by
    obtain ⟨v, ps, rfl, h1, h2⟩ := r.cons_inv
    refine .cons ?_ (keysD_of h2)
    cases k with
    | inl i => exact .int i
    | inr x => exact .str x
theorem cList (hK : X.K = C.K) (hc : X.calm = true) : CaD X C W (.type "list") gList := by
  refine ⟨_, CallR.or call_list_of (call_listD hc), fun M S H ds vs Q s r q => ?_⟩
  rw [hK]
  unfold gList at q
  split at q
  · rename_i d
    obtain ⟨v, rfl, rd⟩ := one_of r
    split at q
    · rename_i xs e1
      obtain ⟨a, us, rfl, h1, h2⟩ := seq_of s rd e1
      exact .inl ⟨a, us, rfl, h1, fun p hp => newSto q s ⟨_, rfl, h2⟩ hp⟩
    · split at q
      · rename_i ks e1
        obtain ⟨a, us, rfl, h1, h2⟩ := dct_of s rd e1
        exact .inr ⟨a, us, rfl, h1, fun p hp => newSto q s ⟨_, rfl, keysD_of h2⟩ hp⟩
      · exact q.elim
  · exact q.elim
theorem cTuple (hK : X.K = C.K) : CaD X C W (.type "tuple") gTuple := by
  refine ⟨_, call_tuple_of, fun M S H ds vs Q s r q => ?_⟩
  rw [hK]
  unfold gTuple at q
  split at q
  · rename_i d
    obtain ⟨v, rfl, rd⟩ := one_of r
    split at q
    · rename_i xs e1
      obtain ⟨a, us, rfl, h1, h2⟩ := tup_of s rd e1
      exact ⟨a, us, rfl, .inr ⟨h1, q.ok s rd⟩⟩
    · split at q
      · rename_i xs e1
        obtain ⟨a, us, rfl, h1, h2⟩ := lst_of s rd e1
        exact ⟨a, us, rfl, .inl ⟨h1, fun p hp => newTup q s h2 hp⟩⟩
      · exact q.elim
  · exact q.elim
theorem boolsD_of {M : Wd} : ∀ {ds : List D} {vs : List V} {bs : List Bool}, RepL C M ds vs → boolsD ds = some bs → vs = bs.map V.bl
  | [], _, _, r, h => by cases h; exact r.nil_inv
  | d :: ds, _, bs, r, h => by
    obtain ⟨v, us, rfl, h1, h2⟩ := r.cons_inv
    unfold boolsD at h
    split at h
    · rename_i e; cases e
    · rename_i b r' e
      cases e
      split at h
      · rename_i bs' e2
        cases h
        cases h1
        rw [boolsD_of h2 e2]; rfl
      · cases h
    · cases h
theorem cAll (hK : X.K = C.K) (hc : X.calm = true) : CaD X C W (.builtin "all") (gBools allB) := by
  refine ⟨_, cr_all hc, fun M S H ds vs Q s r q => ?_⟩
  rw [hK]
  unfold gBools at q
  split at q
  · rename_i d
    obtain ⟨v, rfl, rd⟩ := one_of r
    split at q
    · rename_i xs e1
      split at q
      · rename_i bs e2
        obtain ⟨a, us, rfl, h1, h2⟩ := lst_of s rd e1
        have := boolsD_of h2 e2
        subst this
        rw [allB_eq] at q
        exact ⟨a, bs, rfl, h1, q.ok s (.bl _)⟩
      · exact q.elim
    · exact q.elim
  · exact q.elim
theorem cAny (hK : X.K = C.K) (hc : X.calm = true) : CaD X C W (.builtin "any") (gBools anyB) := by
  refine ⟨_, cr_any hc, fun M S H ds vs Q s r q => ?_⟩
  rw [hK]
  unfold gBools at q
  split at q
  · rename_i d
    obtain ⟨v, rfl, rd⟩ := one_of r
    split at q
    · rename_i xs e1
      split at q
      · rename_i bs e2
        obtain ⟨a, us, rfl, h1, h2⟩ := lst_of s rd e1
        have := boolsD_of h2 e2
        subst this
        rw [anyB_eq] at q
        exact ⟨a, bs, rfl, h1, q.ok s (.bl _)⟩
      · exact q.elim
    · exact q.elim
  · exact q.elim
end

/-! ### isinstance, of built-in types -/
inductive TK where
  | non | bl | int | str | tup | lst | dct
def TK.nm : TK → String
  | .non => "NoneType" | .bl => "bool" | .int => "int" | .str => "str" | .tup => "tuple" | .lst => "list" | .dct => "dict"
/-- is what is of the one type of the other one -/
def TK.is : TK → TK → Bool
  | .non, .non => true
  | .bl, .bl => true
  | .bl, .int => true
  | .int, .int => true
  | .str, .str => true
  | .tup, .tup => true
  | .lst, .lst => true
  | .dct, .dct => true
  | _, _ => false
theorem TK.is_ok {K : PySem.W.Frag} (a b : TK) : PySem.W.kitOne K (.type a.nm) (.type b.nm) = some (a.is b) := by
  refine kit_ty ?_
  cases a <;> cases b <;> decide +kernel
def tkOf (S : Sto) : D → Option TK
  | .non => some .non
  | .bl _ => some .bl
  | .int _ => some .int
  | .str _ => some .str
  | d => (match tupV d with
    | some _ => some .tup
    | none => (match lstV S d with
      | some _ => some .lst
      | none => (match dctV S d with
        | some _ => some .dct
        | none => (match dttV S d with
          | some _ => some .dct
          | none => none))))
/-- a value's type, a locked dict of tuple keys too -/
inductive TyZ (K : PySem.W.Frag) (H : Hp) : V → Value → Prop where
  | x {v : V} {t : Value} (h : TyX K H v t) : TyZ K H v t
  | f {a : Addr} {ob : Obj} {kvs : List (List Key × V)} (h : H a = some (.frz ob (.dT kvs))) : TyZ K H (.ref a) (.type "dict")
theorem TyZ.inv {K : PySem.W.Frag} {H : Hp} {v : V} {t : Value} (h : TyZ K H v t) : TyX K H v t ∨ ∃ (a : Addr) (ob : Obj) (kvs : List (List Key × V)), v = .ref a ∧ H a = some (.frz ob (.dT kvs)) ∧ t = .type "dict" := by
  cases h with
  | x h => exact .inl h
  | f h => exact .inr ⟨_, _, _, rfl, h, rfl⟩
def rIsZ (K : PySem.W.Frag) : List V → Hp → VK → Prop := fun xs H Q => ∃ (v c : V) (t u : Value) (b : Bool), xs = [v, c] ∧ ClsV c u ∧ TyZ K H v t ∧ PySem.W.kitOne K t u = some b ∧ Q (.bl b) H
theorem call_isZ {X : Cx} : CallR X (.builtin "isinstance") (rIsZ X.K) := by
  intro pn s0 σ0 H0 vs ws R I rel hyp
  obtain ⟨v, c, t, u, b, rfl, kc, ty, ek, q⟩ := hyp
  cases ty with
  | x ty => exact call_isi pn s0 σ0 H0 _ ws R I rel ⟨v, c, t, u, b, rfl, kc, ty, ek, q⟩
  | @f a ob kvs ha =>
    obtain ⟨u1, u2, rfl, r1, r2⟩ := Vals.two rel
    have same := kc.eq r2
    subst same
    cases r1
    obtain ⟨_, _, _, xs, _, o, es, ep, g1, g2, _⟩ := (show ObjOk X.prog X.w H0 s0.heap a (.frz ob (.dT kvs)) from I.hok a _ ha)
    exact PySem.W.kia_one PySem.W.kitx_dict I.kIn ⟨o, g1, g2.1⟩ ek (fun z => nomatch z) fun tk => ⟨.bl b, H0, I.tok tk, rfl, q⟩
theorem tk_dct {K : PySem.W.Frag} {H : Hp} {a : Addr} {kvs : List (Key × V)} (h : Rd H a (.dK kvs)) : TyZ K H (.ref a) (.type "dict") := by
  rcases h with h | ⟨ob, h⟩
  · exact .x (.base (.dK h))
  · exact .x (.fDict h)
theorem tk_dtt {K : PySem.W.Frag} {H : Hp} {a : Addr} {kvs : List (List Key × V)} (h : Rd H a (.dT kvs)) : TyZ K H (.ref a) (.type "dict") := by
  rcases h with h | ⟨ob, h⟩
  · exact .x (.base (.dT h))
  · exact .f h
section
variable {X : Cx} {C : Cfg} {W : XK}
theorem tkOf_of {M : Wd} {S : Sto} {H : Hp} {d : D} {x : V} {k : TK} (s : Sim C M S H) (r : Rep C M d x) (h : tkOf S d = some k) : TyZ C.K H x (.type k.nm) := by
  unfold tkOf at h
  split at h
  · cases h; cases r; exact .x (.base .non)
  · cases h; cases r; exact .x (.base (.bl _))
  · cases h; cases r; exact .x (.base (.int _))
  · cases h; cases r; exact .x (.base (.str _))
  · split at h
    · rename_i ds e
      cases h
      obtain ⟨a, vs, rfl, q, _⟩ := tup_of s r e
      rcases q with (q | ⟨ob, q⟩) | ⟨o, its, n, q, c, _⟩
      · exact .x (.base (.tup q))
      · exact .x (.fTuple q)
      · exact .x (.kTuple q c)
    · split at h
      · rename_i ds e
        cases h
        obtain ⟨a, vs, rfl, q, _⟩ := lst_of s r e
        rcases q with (q | ⟨ob, q⟩) | ⟨o, its, n, q, c, _⟩
        · exact .x (.base (.lst q))
        · exact .x (.base (.frz q))
        · exact .x (.kList q c)
      · split at h
        · rename_i ds e
          cases h
          obtain ⟨a, vs, rfl, q, _⟩ := dct_of s r e
          exact tk_dct q
        · split at h
          · rename_i ds e
            cases h
            obtain ⟨a, vs, rfl, q, _⟩ := dtt_of s r e
            exact tk_dtt q
          · cases h
def vIs (b : TK) (S : Sto) (d : D) : Res D := match tkOf S d with
  | some k => .ok (.bl (k.is b)) S
  | none => .bad
def dIsi (b : TK) (fa : DE) : DE := fun Γ S => (fa Γ S).bind fun d S1 => vIs b S1 d
theorem xisi {e ce : Expr} {fa : DE} {p pos : Pos} (b : TK) (hK : X.K = C.K) (hg : Gl X "isinstance") (hm : X.mg "isinstance" = none) (ha : PE X e (tE C W fa)) (hc : PE X ce (tC (.ty b.nm)))
    (he : starEach [e, ce] X.env = (false, eval e X.env) :: starEach [ce] X.env := by rfl) (he2 : starEach [ce] X.env = (false, eval ce X.env) :: starEach [] X.env := by rfl) (hpl : (backTo pos (starEach [ce] X.env)).any (·.1) = false := by rfl) :
    PE X (.Call (.Name "isinstance" p) [e, ce] [] pos) (tE C W (dIsi b fa)) :=
  (pe_callB call_isZ hg hm (by rfl) (pa_cons ha (pa_cons hc pa_nil he2) he) (by decide) (by decide) he hpl).by fun σ H Q ⟨M, Γ, S, g, s, h⟩ => run1 g s h fun M1 d S1 x H1 l1 s1 r1 h1 => by
    unfold vIs at h1
    split at h1
    · rename_i k e
      exact ⟨x, _, _, _, _, rfl, .ty _, hK ▸ tkOf_of s1 r1 e, TK.is_ok k b, h1.ok s1 (.bl _)⟩
    · exact h1.elim
/-- isinstance(x, (T1, T2)) -/
def isAny (k : TK) : List TK → Bool
  | [] => false
  | b :: r => (match k.is b with
    | true => true
    | false => isAny k r)
def vIsT (bs : List TK) (S : Sto) (d : D) : Res D := match tkOf S d with
  | some k => .ok (.bl (isAny k bs)) S
  | none => .bad
def dIsiT (bs : List TK) (fa : DE) : DE := fun Γ S => (fa Γ S).bind fun d S1 => vIsT bs S1 d
theorem isAny_ok {K : PySem.W.Frag} (k : TK) : ∀ bs : List TK, PySem.W.kitAny K (.type k.nm) (bs.map fun b => .type b.nm) = some (isAny k bs)
  | [] => kitAny_nil
  | b :: r => by
    refine kitAny_cons (b := k.is b) (TK.is_ok k b) (fun e => ?_) fun e => ?_
    · unfold isAny; rw [e]; exact isAny_ok k r
    · unfold isAny; rw [e]
def rIsZT (K : PySem.W.Frag) : List V → Hp → VK → Prop := fun xs H Q => ∃ (v : V) (tp : Addr) (bs : List TK) (k : TK), xs = [v, .ref tp] ∧ H tp = some (.tup (bs.map fun b => .ty b.nm)) ∧ TyZ K H v (.type k.nm) ∧ Q (.bl (isAny k bs)) H
theorem tys_of : ∀ bs : List TK, Paired ClsV (bs.map fun b => V.ty b.nm) (bs.map fun b => Value.type b.nm)
  | [] => .nil
  | b :: r => .cons (.ty _) (tys_of r)
theorem call_isZT : CallR X (.builtin "isinstance") (rIsZT X.K) := by
  intro pn s0 σ0 H0 vs ws R I rel hyp
  obtain ⟨v, tp, bs, k, rfl, ht, ty, q⟩ := hyp
  rcases ty.inv with ty | ⟨a, ob, kvs, rfl, ha, ek⟩
  · exact call_isiT pn s0 σ0 H0 _ ws R I rel ⟨v, tp, _, _, _, _, rfl, ht, tys_of bs, ty, isAny_ok k bs, q⟩
  · obtain ⟨u1, u2, rfl, r1, r2⟩ := Vals.two rel
    cases r1
    cases r2
    obtain ⟨_, its, rv, o, h1, h2, n, h3⟩ := (show ObjOk X.prog X.w H0 s0.heap tp (.tup (bs.map fun b => .ty b.nm)) from I.hok tp _ ht)
    have same := ClsV.all (tys_of bs) rv
    subst same
    obtain ⟨oc, od, dt, sl⟩ := o
    obtain ⟨_, _, _, xs, _, o, es, ep, g1, g2, _⟩ := (show ObjOk X.prog X.w H0 s0.heap a (.frz ob (.dT kvs)) from I.hok a _ ha)
    simp only at h2 h3
    subst h2 h3
    have hk : k = .dct := by cases k <;> first | rfl | exact absurd ek (by decide)
    subst hk
    exact PySem.W.kia_tup PySem.W.kitx_dict I.kIn ⟨o, g1, g2.1⟩ h1 (isAny_ok .dct bs) (fun z => nomatch z) fun tk => ⟨.bl (isAny .dct bs), H0, I.tok tk, rfl, q⟩
theorem xisiT {e : Expr} {ces : List Expr} {fa : DE} {p pos tpos : Pos} {k1} {t : TA} (bs : List TK) (hK : X.K = C.K) (hg : Gl X "isinstance") (hm : X.mg "isinstance" = none) (ha : PE X e (tE C W fa)) (hc : PA X ces t) (hb : ∀ σ H Q, Q (bs.map fun b => V.ty b.nm) H → t σ H Q) (few : lineOk bs.length = true := by rfl)
    (he : starEach [e, .Tuple ces k1 tpos] X.env = (false, eval e X.env) :: starEach [.Tuple ces k1 tpos] X.env := by rfl) (he2 : starEach [.Tuple ces k1 tpos] X.env = (false, eval (.Tuple ces k1 tpos) X.env) :: starEach [] X.env := by rfl) (hpl : (backTo pos (starEach [.Tuple ces k1 tpos] X.env)).any (·.1) = false := by rfl) :
    PE X (.Call (.Name "isinstance" p) [e, .Tuple ces k1 tpos] [] pos) (tE C W (dIsiT bs fa)) :=
  (pe_callB call_isZT hg hm (by rfl) (pa_cons ha (pa_cons (pe_tup hc) pa_nil he2) he) (by decide) (by decide) he hpl).by fun σ H Q ⟨M, Γ, S, g, s, h⟩ => run1 g s h fun M1 d S1 x H1 l1 s1 r1 h1 => by
    unfold vIsT at h1
    split at h1
    · rename_i k e
      refine hb σ H1 _ ⟨by rw [List.length_map]; exact lineOk_ok few, fun q hq => ?_⟩
      have l2 : M1.le (M1.lay q (.tup (bs.map fun b => V.ty b.nm))) := Wd.lay_le (s1.free hq)
      have s2 := s1.lay (o := .tup (bs.map fun b => V.ty b.nm)) hq
      exact ⟨x, q, bs, k, rfl, upd_same, hK ▸ tkOf_of s2 (r1.mono l2) e, (h1.mono l2).ok s2 (.bl _)⟩
    · exact h1.elim
end
end Pd

namespace Pd
open PySem PySem.Spec L2

/-! ### over a dict's keys, which is locked for as long -/
def iKeysL (X : Cx) (td : TE) : TI := fun σ H R => td σ H fun x H1 => ∃ d, x = .ref d ∧
  ((∃ o kvs, H1 d = some (.frz o (.dK kvs)) ∧ R (Itk d o kvs) H1) ∨ (∃ o kvs, H1 d = some (.frz o (.dT kvs)) ∧ R (Itkt d o kvs) H1) ∨
   (∃ kvs, H1 d = some (.dK kvs) ∧ ∀ od, NoFrz X d → R (Itk d od kvs) (upd H1 d (.frz od (.dK kvs)))) ∨ ∃ kvs, H1 d = some (.dT kvs) ∧ ∀ od, NoFrz X d → R (Itkt d od kvs) (upd H1 d (.frz od (.dT kvs))))
section
variable {X : Cx} {tg e : Expr} {td : TE}
theorem keys_K {pn : List (Addr × Obj)} {σ : St} {H : Hp} {s : Shared} {d : Addr} {o : Obj} {kvs : List (Key × V)} {R : It → Hp → Prop} {E : Value → Shared → Prop} (I : Inv X pn σ H s) (h : H d = some (.frz o (.dK kvs))) (q : R (Itk d o kvs) H) :
    wpAny (model X.prog X.w) X.A (pyIter (.ref d)) (PIE X pn σ tg R) E s := by
  obtain ⟨g1, g2, g3, es, ep, vs, g4, g5, kv, hm⟩ := I.frzK h
  refine iter_keys g1 g2 g3 g4 (pi_one (tk := s.toks) I _ (turn_keys _ g4) ⟨_, Heap.get?_push_size _ rfl, rfl, ?_⟩ q)
  rw [g5]
  all_goals rfl
theorem keys_T {pn : List (Addr × Obj)} {σ : St} {H : Hp} {s : Shared} {d : Addr} {o : Obj} {kvs : List (List Key × V)} {R : It → Hp → Prop} {E : Value → Shared → Prop} (I : Inv X pn σ H s) (h : H d = some (.frz o (.dT kvs))) (q : R (Itkt d o kvs) H) :
    wpAny (model X.prog X.w) X.A (pyIter (.ref d)) (PIE X pn σ tg R) E s := by
  obtain ⟨g1, g2, g3, es, ep, g4, g5, en⟩ := I.frzT h
  refine iter_keys g1 g2 g3 g4 (pi_one (tk := s.toks) I _ (turn_keysT _ g4) ⟨_, Heap.get?_push_size _ rfl, rfl, ?_⟩ q)
  rw [g5]
  all_goals rfl
theorem pi_keysL (he : PE X e td) : PI X tg e (iKeysL X td) := ⟨fun pn s0 σ0 H0 R I h => by
  refine thn (he.run pn s0 σ0 H0 _ I h) fun u s1 ⟨x, H1, I1, rx, d, ex, q⟩ => ?_
  subst ex
  cases rx
  rcases q with ⟨o, kvs, hd, q⟩ | ⟨o, kvs, hd, q⟩ | ⟨kvs, hd, q⟩ | ⟨kvs, hd, q⟩
  · exact keys_K I1 hd q
  · exact keys_T I1 hd q
  · obtain ⟨od, I2⟩ := I1.lock hd True.intro
    exact keys_K I2 upd_same (q od (I1.nofrz hd True.intro))
  · obtain ⟨od, I2⟩ := I1.lock hd True.intro
    exact keys_T I2 upd_same (q od (I1.nofrz hd True.intro))⟩
end
def tkeysD : List (List Key × D) → List D
  | [] => []
  | (k, _) :: r => .tup (k.map keyD) :: tkeysD r
/-- the keys, and what is to be undone -/
def lockD (d : D) (S : Sto) : Res (List D × UK) := match d with
  | .dct kds => .ok (keysD kds, .fz) S
  | .dtt kds => .ok (tkeysD kds, .fz) S
  | .ref n => (match S.at n with
    | some (.dct kds) => .ok (keysD kds, .st n) (S.set n (.lck (.dct kds)))
    | some (.dtt kds) => .ok (tkeysD kds, .st n) (S.set n (.lck (.dtt kds)))
    | some (.lck (.dct kds)) => .ok (keysD kds, .no) S
    | some (.lck (.dtt kds)) => .ok (tkeysD kds, .no) S
    | _ => .bad)
  | _ => .bad
def iDct (fa : DE) : DI := fun Γ S => (fa Γ S).bind lockD
section
variable {X : Cx} {C : Cfg} {W : XK}
theorem keysD_get {M : Wd} {kds : List (Key × D)} {kvs : List (Key × V)} (r : RepG C M kds kvs) (i : Nat) (d : D) (h : (keysD kds)[i]? = some d) : ∃ k v, kvs[i]? = some (k, v) ∧ Rep C M d (kV k) := by
  have rl := keysD_of r
  obtain ⟨v, hv, rv⟩ := rl.get h
  rw [List.getElem?_map] at hv
  cases e : kvs[i]? with
  | none => rw [e] at hv; cases hv
  | some p => rw [e] at hv; cases hv; exact ⟨p.1, p.2, rfl, rv⟩
theorem keysD_len : ∀ kds : List (Key × D), (keysD kds).length = kds.length
  | [] => rfl
  | _ :: r => by show (keysD r).length + 1 = _; rw [keysD_len r]; rfl
theorem tkeysD_len : ∀ kds : List (List Key × D), (tkeysD kds).length = kds.length
  | [] => rfl
  | _ :: r => by show (tkeysD r).length + 1 = _; rw [tkeysD_len r]; rfl
theorem tkeysD_get {M : Wd} : ∀ {kds : List (List Key × D)} {kvs : List (List Key × V)}, RepG C M kds kvs → ∀ (i : Nat) (d : D), (tkeysD kds)[i]? = some d → ∃ k v, kvs[i]? = some (k, v) ∧ d = .tup (k.map keyD)
  | [], _, r, i, d, h => by simp [tkeysD] at h
  | (k, d0) :: rs, _, r, i, d, h => by
    obtain ⟨v, ps, rfl, h1, h2⟩ := r.cons_inv
    cases i with
    | zero =>
      have h : some (D.tup (k.map keyD)) = some d := h
      cases h
      exact ⟨k, v, rfl, rfl⟩
    | succ i => exact tkeysD_get h2 i d h
theorem keyD_rep {M : Wd} : ∀ k : Key, Rep C M (keyD k) (kV k)
  | .inl i => .int i
  | .inr x => .str x
theorem keysL_rep {M : Wd} : ∀ ks : List Key, RepL C M (ks.map keyD) (ks.map kV)
  | [] => .nil
  | k :: ks => .cons (keyD_rep k) (keysL_rep ks)
theorem gives_K {M : Wd} {d : Addr} {od : Obj} {kds : List (Key × D)} {kvs : List (Key × V)} (h : M.lk d = some (od, .dK kvs)) (r : RepG C M kds kvs) : Gives C M (Itk d od kvs) (keysD kds) := by
  intro M' S H l s i
  have hd := s.lk _ _ _ (l.2.2.1 _ _ h)
  refine ⟨fun hi => ⟨hd, by rw [keysD_len, r.length] at hi; exact hi⟩, fun x hx => ?_⟩
  obtain ⟨k, v, hk, rx⟩ := keysD_get r i x hx
  refine ⟨⟨hd, (List.getElem?_eq_some_iff.mp hk).1⟩, fun y H' q => ?_⟩
  obtain ⟨rfl, k', v', hk', rfl⟩ := q
  rw [hk] at hk'; cases hk'
  exact ⟨M', .refl M', s, rx.mono l⟩
theorem gives_T {M : Wd} {d : Addr} {od : Obj} {kds : List (List Key × D)} {kvs : List (List Key × V)} (h : M.lk d = some (od, .dT kvs)) (r : RepG C M kds kvs) : Gives C M (Itkt d od kvs) (tkeysD kds) := by
  intro M' S H l s i
  have hd := s.lk _ _ _ (l.2.2.1 _ _ h)
  refine ⟨fun hi => ⟨hd, by rw [tkeysD_len, r.length] at hi; exact hi⟩, fun x hx => ?_⟩
  obtain ⟨k, v, hk, rfl⟩ := tkeysD_get r i x hx
  refine ⟨⟨hd, (List.getElem?_eq_some_iff.mp hk).1⟩, fun y H' q => ?_⟩
  obtain ⟨rfl, k', v', p, hk', rfl, hp⟩ := q
  rw [hk] at hk'; cases hk'
  obtain ⟨M2, l2, s2, f2⟩ := s.track hp
  have rl : RepL C M2 (k.map keyD) (k.map kV) := keysL_rep k
  exact ⟨M2, l2, s2, .tup f2 rl.1 rl.2⟩
/-- a frozen dict: its lock is loosened in the end -/
theorem end_fz {M M1 : Wd} {d : Addr} {od : Obj} {u : HO} (l : M.le M1) (n0 : M.lk d = none) (h : M1.lk d = some (od, u)) (f : M1.fz d = some u) (nf : NoFrz X d) : EndOk X C M M1 .fz := fun M' S' S'' H' l1 s e => by
  cases e
  have hl := l1.2.2.1 _ _ h
  have s1 := s.drop d
  have nl : (M'.unlk d).lk d = none := if_pos rfl
  exact ⟨M'.unlk d, upd H' d u, Wd.unlk_le (l.trans l1) n0, Wd.unlk_lev, s1.relock (l1.1 _ _ f) nl (.inl rfl), .inr ⟨d, od, u, s.lk _ _ _ hl, nf, rfl⟩⟩
theorem end_fz0 {M M1 : Wd} (l : M.le M1) : EndOk X C M M1 .fz := fun M' S' S'' H' l1 s e => by
  cases e
  exact ⟨M', H', l.trans l1, ⟨fun _ _ h => h, fun _ _ h => h⟩, s, .inl rfl⟩
theorem end_st {M M1 : Wd} {n : Nat} {d : Addr} {od : Obj} {u : HO} (l : M.le M1) (n0 : M.lk d = none) (h : M1.lk d = some (od, u)) (hm : M1.mu n = some d) (nf : NoFrz X d) : EndOk X C M M1 (.st n) := fun M' S' S'' H' l1 s e => by
  have e : (match S'.at n with
    | some (.lck m) => some (S'.set n m)
    | _ => none) = some S'' := e
  split at e
  · rename_i m em
    cases e
    have hl := l1.2.2.1 _ _ h
    have hd := s.lk _ _ _ hl
    have s1 := s.drop d
    have nl : (M'.unlk d).lk d = none := if_pos rfl
    obtain ⟨b, o, h1, h2, h3, h4⟩ := s1.al n _ em
    have hm' : (M'.unlk d).mu n = some d := l1.2.1 _ _ hm
    rw [hm'] at h1; cases h1
    rw [hd] at h2; cases h2
    obtain ⟨ob, w, e, rm⟩ := h4
    cases e
    exact ⟨M'.unlk d, upd H' d u, Wd.unlk_le (l.trans l1) n0, Wd.unlk_lev, s1.write0 em hm' rm nl, .inr ⟨d, od, u, hd, nf, rfl⟩⟩
  · cases e
/-- from an expression's value to the iterator, with what is undone -/
theorem run1U {M : Wd} {Γ : Ga} {S : Sto} {σ : St} {H : Hp} {fa : DE} {f : D → Sto → Res (List D × UK)} {R : It → Hp → Prop} {K1 : V → Hp → Prop} (g : SimG C M Γ σ) (s : Sim C M S H)
    (h : match (fa Γ S).bind f with
      | .ok (ds, k) S1 => ∀ M1 H1 J, M.le M1 → Sim C M1 S1 H1 → Gives C M1 J ds → EndOk X C M M1 k → R J H1
      | .exc c fs S1 => ∀ M' cls dd H', M.le M' → Sim C M' S1 H' → RepX C M' H' cls dd c fs → W cls dd H'
      | .bad => False)
    (k : ∀ M' a S' x H', M.le M' → Sim C M' S' H' → Rep C M' a x → (match f a S' with
      | .ok (ds, k) S1 => ∀ M1 H1 J, M'.le M1 → Sim C M1 S1 H1 → Gives C M1 J ds → EndOk X C M' M1 k → R J H1
      | .exc c fs S1 => ∀ M2 cls dd H', M'.le M2 → Sim C M2 S1 H' → RepX C M2 H' cls dd c fs → W cls dd H'
      | .bad => False) → K1 x H') : tE C W fa σ H K1 := by
  refine ⟨M, Γ, S, g, s, ?_⟩
  cases ea : fa Γ S with
  | bad => rw [ea] at h; exact h
  | exc c fs S1 => rw [ea] at h; exact h
  | ok a S1 =>
    rw [ea] at h
    intro M1 x H1 l1 s1 r1
    refine k M1 a S1 x H1 l1 s1 r1 ?_
    have h : (match f a S1 with
      | .ok (ds, k) S1 => ∀ M1 H1 J, M.le M1 → Sim C M1 S1 H1 → Gives C M1 J ds → EndOk X C M M1 k → R J H1
      | .exc c fs S1 => ∀ M' cls dd H', M.le M' → Sim C M' S1 H' → RepX C M' H' cls dd c fs → W cls dd H'
      | .bad => False) := h
    cases ef : f a S1 with
    | bad => rw [ef] at h; exact h
    | exc c fs S2 => rw [ef] at h; exact fun M2 cls dd H' l => h M2 cls dd H' (l1.trans l)
    | ok p S2 =>
      obtain ⟨ds, k⟩ := p
      rw [ef] at h
      exact fun M2 H2 J l s2 gv en => h M2 H2 J (l1.trans l) s2 gv fun M' S' S'' H' l2 s3 e => by
        obtain ⟨M'', H'', l3, lv, s4, b⟩ := en M' S' S'' H' l2 s3 e
        exact ⟨M'', H'', l1.trans l3, lv, s4, b⟩
theorem wdct {tg e : Expr} {fa : DE} (he : PE X e (tE C W fa)) : ItU X C W tg e (iDct fa) := by
  refine ⟨_, pi_keysL he, fun M Γ S σ H R g s q => run1U g s q fun M1 d S1 x H1 l1 s1 r1 h1 => ?_⟩
  cases r1 with
  | dct hq hl hr =>
    rename_i kds a kvs
    have rg : RepG C M1 kds kvs := ⟨hl, hr⟩
    refine ⟨a, rfl, ?_⟩
    rcases hq with hq | ⟨ob, hq⟩
    · rcases s1.fr _ _ hq with z | ⟨_, ob, z⟩
      · have n0 := s1.nolk (a := a) (fun ob u w => by rw [z] at w; cases w)
        refine .inr (.inr (.inl ⟨kvs, z, fun od nf => ?_⟩))
        have s2 := (s1.relock hq n0 (.inr ⟨True.intro, od, rfl⟩)).addlk (od := od) (u := .dK kvs) upd_same
        exact h1 _ _ _ (Wd.lck_le n0) s2 (gives_K Wd.lck_at ⟨rg.1, fun i k d k' v a b => (rg.2 i k d k' v a b).mono (Wd.lck_le n0)⟩) (end_fz (Wd.lck_le n0) n0 Wd.lck_at hq nf)
      · refine .inl ⟨ob, kvs, z, ?_⟩
        have s2 := s1.addlk z
        cases e0 : M1.lk a with
        | none => exact h1 _ _ _ (Wd.lck_le e0) s2 (gives_K Wd.lck_at ⟨rg.1, fun i k d k' v a b => (rg.2 i k d k' v a b).mono (Wd.lck_le e0)⟩) (end_fz0 (Wd.lck_le e0))
        | some p =>
          obtain ⟨od, u⟩ := p
          have w := s1.lk _ _ _ e0
          rw [z] at w; cases w
          exact h1 _ _ _ (.refl _) s1 (gives_K e0 rg) (end_fz0 (.refl _))
    · rcases s1.fr _ _ hq with z | ⟨z, _⟩
      · refine .inl ⟨ob, kvs, z, ?_⟩
        have s2 := s1.addlk z
        cases e0 : M1.lk a with
        | none => exact h1 _ _ _ (Wd.lck_le e0) s2 (gives_K Wd.lck_at ⟨rg.1, fun i k d k' v a b => (rg.2 i k d k' v a b).mono (Wd.lck_le e0)⟩) (end_fz0 (Wd.lck_le e0))
        | some p =>
          obtain ⟨od, u⟩ := p
          have w := s1.lk _ _ _ e0
          rw [z] at w; cases w
          exact h1 _ _ _ (.refl _) s1 (gives_K e0 rg) (end_fz0 (.refl _))
      · exact z.elim
  | dtt hq hl hr =>
    rename_i kds a kvs
    have rg : RepG C M1 kds kvs := ⟨hl, hr⟩
    refine ⟨a, rfl, ?_⟩
    rcases hq with hq | ⟨ob, hq⟩
    · rcases s1.fr _ _ hq with z | ⟨_, ob, z⟩
      · have n0 := s1.nolk (a := a) (fun ob u w => by rw [z] at w; cases w)
        refine .inr (.inr (.inr ⟨kvs, z, fun od nf => ?_⟩))
        have s2 := (s1.relock hq n0 (.inr ⟨True.intro, od, rfl⟩)).addlk (od := od) (u := .dT kvs) upd_same
        exact h1 _ _ _ (Wd.lck_le n0) s2 (gives_T Wd.lck_at ⟨rg.1, fun i k d k' v a b => (rg.2 i k d k' v a b).mono (Wd.lck_le n0)⟩) (end_fz (Wd.lck_le n0) n0 Wd.lck_at hq nf)
      · refine .inr (.inl ⟨ob, kvs, z, ?_⟩)
        have s2 := s1.addlk z
        cases e0 : M1.lk a with
        | none => exact h1 _ _ _ (Wd.lck_le e0) s2 (gives_T Wd.lck_at ⟨rg.1, fun i k d k' v a b => (rg.2 i k d k' v a b).mono (Wd.lck_le e0)⟩) (end_fz0 (Wd.lck_le e0))
        | some p =>
          obtain ⟨od, u⟩ := p
          have w := s1.lk _ _ _ e0
          rw [z] at w; cases w
          exact h1 _ _ _ (.refl _) s1 (gives_T e0 rg) (end_fz0 (.refl _))
    · rcases s1.fr _ _ hq with z | ⟨z, _⟩
      · refine .inr (.inl ⟨ob, kvs, z, ?_⟩)
        have s2 := s1.addlk z
        cases e0 : M1.lk a with
        | none => exact h1 _ _ _ (Wd.lck_le e0) s2 (gives_T Wd.lck_at ⟨rg.1, fun i k d k' v a b => (rg.2 i k d k' v a b).mono (Wd.lck_le e0)⟩) (end_fz0 (Wd.lck_le e0))
        | some p =>
          obtain ⟨od, u⟩ := p
          have w := s1.lk _ _ _ e0
          rw [z] at w; cases w
          exact h1 _ _ _ (.refl _) s1 (gives_T e0 rg) (end_fz0 (.refl _))
      · exact z.elim
  | ref hm =>
    rename_i n a
    refine ⟨a, rfl, ?_⟩
    unfold lockD at h1
    dsimp only at h1
    split at h1
    · rename_i ds' k' S' e'
      split at e'
      · rename_i kds em
        cases e'
        obtain ⟨b, o, h2, h3, h4, kvs, rfl, rr⟩ := s1.al n _ em
        rw [hm] at h2; cases h2
        have rg : RepG C M1 kds kvs := rr
        have n0 := s1.nolk (a := a) (fun ob u w => by rw [h3] at w; cases w)
        refine .inr (.inr (.inl ⟨kvs, h3, fun od nf => ?_⟩))
        have s2 := (s1.write (m' := .lck (.dct kds)) (o := .frz od (.dK kvs)) em hm ⟨od, _, rfl, kvs, rfl, rr⟩).addlk (od := od) (u := .dK kvs) upd_same
        exact h1 _ _ _ (Wd.lck_le n0) s2 (gives_K Wd.lck_at ⟨rg.1, fun i k d k' v a b => (rg.2 i k d k' v a b).mono (Wd.lck_le n0)⟩) (end_st (Wd.lck_le n0) n0 Wd.lck_at hm nf)
      · rename_i kds em
        cases e'
        obtain ⟨b, o, h2, h3, h4, kvs, rfl, rr⟩ := s1.al n _ em
        rw [hm] at h2; cases h2
        have rg : RepG C M1 kds kvs := rr
        have n0 := s1.nolk (a := a) (fun ob u w => by rw [h3] at w; cases w)
        refine .inr (.inr (.inr ⟨kvs, h3, fun od nf => ?_⟩))
        have s2 := (s1.write (m' := .lck (.dtt kds)) (o := .frz od (.dT kvs)) em hm ⟨od, _, rfl, kvs, rfl, rr⟩).addlk (od := od) (u := .dT kvs) upd_same
        exact h1 _ _ _ (Wd.lck_le n0) s2 (gives_T Wd.lck_at ⟨rg.1, fun i k d k' v a b => (rg.2 i k d k' v a b).mono (Wd.lck_le n0)⟩) (end_st (Wd.lck_le n0) n0 Wd.lck_at hm nf)
      · rename_i kds em
        cases e'
        obtain ⟨b, o, h2, h3, h4, ob, u, rfl, kvs, rfl, rr⟩ := s1.al n _ em
        rw [hm] at h2; cases h2
        have rg : RepG C M1 kds kvs := rr
        refine .inl ⟨ob, kvs, h3, ?_⟩
        have s2 := s1.addlk h3
        cases e0 : M1.lk a with
        | none => exact h1 _ _ _ (Wd.lck_le e0) s2 (gives_K Wd.lck_at ⟨rg.1, fun i k d k' v a b => (rg.2 i k d k' v a b).mono (Wd.lck_le e0)⟩) (end_no (Wd.lck_le e0))
        | some p =>
          obtain ⟨od, u⟩ := p
          have w := s1.lk _ _ _ e0
          rw [h3] at w; cases w
          exact h1 _ _ _ (.refl _) s1 (gives_K e0 rg) (end_no (.refl _))
      · rename_i kds em
        cases e'
        obtain ⟨b, o, h2, h3, h4, ob, u, rfl, kvs, rfl, rr⟩ := s1.al n _ em
        rw [hm] at h2; cases h2
        have rg : RepG C M1 kds kvs := rr
        refine .inr (.inl ⟨ob, kvs, h3, ?_⟩)
        have s2 := s1.addlk h3
        cases e0 : M1.lk a with
        | none => exact h1 _ _ _ (Wd.lck_le e0) s2 (gives_T Wd.lck_at ⟨rg.1, fun i k d k' v a b => (rg.2 i k d k' v a b).mono (Wd.lck_le e0)⟩) (end_no (Wd.lck_le e0))
        | some p =>
          obtain ⟨od, u⟩ := p
          have w := s1.lk _ _ _ e0
          rw [h3] at w; cases w
          exact h1 _ _ _ (.refl _) s1 (gives_T e0 rg) (end_no (.refl _))
      · cases e'
    · rename_i c fs S' e'
      split at e' <;> cases e'
    · exact h1.elim
  | _ => exact h1.elim
end
end Pd

namespace Pd
open PySem PySem.Spec L2

/-! ### enumerate, zip, reversed -/
def numD (i : Int) : List D → List D
  | [] => []
  | d :: r => .tup [.int i, d] :: numD (i + 1) r
theorem numD_get : ∀ (ds : List D) (i : Nat) (k : Int) (d : D), (numD k ds)[i]? = some d → ∃ x, ds[i]? = some x ∧ d = .tup [.int (k + i), x]
  | [], i, k, d, h => by simp [numD] at h
  | x :: r, 0, k, d, h => by
    have h : some (D.tup [.int k, x]) = some d := h
    cases h
    exact ⟨x, rfl, by simp⟩
  | x :: r, i + 1, k, d, h => by
    obtain ⟨y, h1, h2⟩ := numD_get r i (k + 1) d h
    refine ⟨y, h1, ?_⟩
    rw [h2]
    have : k + 1 + (i : Int) = k + ((i + 1 : Nat) : Int) := by omega
    rw [this]
theorem numD_len : ∀ (ds : List D) (k : Int), (numD k ds).length = ds.length
  | [], _ => rfl
  | _ :: r, k => by show (numD (k + 1) r).length + 1 = _; rw [numD_len r]; rfl
def zipD : List D → List D → List D
  | x :: xs, y :: ys => .tup [x, y] :: zipD xs ys
  | _, _ => []
theorem zipD_get : ∀ (xs ys : List D) (i : Nat) (d : D), (zipD xs ys)[i]? = some d → ∃ x y, xs[i]? = some x ∧ ys[i]? = some y ∧ d = .tup [x, y]
  | [], _, i, d, h => by simp [zipD] at h
  | _ :: _, [], i, d, h => by simp [zipD] at h
  | x :: xs, y :: ys, 0, d, h => by
    have h : some (D.tup [x, y]) = some d := h
    cases h
    exact ⟨x, y, rfl, rfl, rfl⟩
  | x :: xs, y :: ys, i + 1, d, h => zipD_get xs ys i d h
theorem zipD_len : ∀ (xs ys : List D) (i : Nat), (zipD xs ys).length ≤ i → xs.length ≤ i ∨ ys.length ≤ i
  | [], _, i, _ => .inl (Nat.zero_le _)
  | _ :: _, [], i, _ => .inr (Nat.zero_le _)
  | x :: xs, y :: ys, 0, h => by simp [zipD] at h
  | x :: xs, y :: ys, i + 1, h => by
    have h : (zipD xs ys).length + 1 ≤ i + 1 := h
    rcases zipD_len xs ys i (by omega) with z | z
    · exact .inl (by show xs.length + 1 ≤ i + 1; omega)
    · exact .inr (by show ys.length + 1 ≤ i + 1; omega)
section
variable {X : Cx} {C : Cfg} {W : XK}
/-- a list that stands still, as it stands -/
theorem still {M M' : Wd} {S : Sto} {H : Hp} {d : D} {ds : List D} {a : Addr} (l : M.le M') (s : Sim C M' S H) (r : Rep C M d (.ref a)) (h : iFrz d = some ds) : ∃ vs, SqL C.K H a vs ∧ RepL C M' ds vs := by
  obtain ⟨b, vs, e, hs, rl⟩ : ∃ b vs, V.ref a = .ref b ∧ SqL C.K H b vs ∧ RepL C M' ds vs := lst_of s (r.mono l) (by cases d <;> simp [iFrz] at h <;> simp [lstV, h])
  cases e
  exact ⟨vs, hs, rl⟩
theorem stillT {M M' : Wd} {S : Sto} {H : Hp} {d : D} {ds : List D} {a : Addr} (l : M.le M') (s : Sim C M' S H) (r : Rep C M d (.ref a)) (h : tupV d = some ds) : ∃ vs, SqT C.K H a vs ∧ RepL C M' ds vs := by
  obtain ⟨b, vs, e, hs, rl⟩ := tup_of s (r.mono l) h
  cases e
  exact ⟨vs, hs, rl⟩
theorem gives_enum {M : Wd} {d : D} {ds : List D} {a : Addr} (r : Rep C M d (.ref a)) (h : iFrz d = some ds) : Gives C M (Ite C.K a) (numD 0 ds) := by
  intro M' S H l s i
  obtain ⟨vs, hs, rl⟩ := still l s r h
  refine ⟨fun hi => ⟨vs, hs, by rw [← rl.1]; rw [numD_len] at hi; exact hi⟩, fun d' hd => ?_⟩
  obtain ⟨x, hx, rfl⟩ := numD_get ds i 0 d' hd
  obtain ⟨v, hv, rv⟩ := rl.get hx
  refine ⟨⟨vs, v, hs, hv⟩, fun y H' q => ?_⟩
  obtain ⟨p, v', rfl, hn, rfl, hall⟩ := q
  have := hall vs hs
  rw [hv] at this; cases this
  have lp : M'.le (M'.lay p (.tup [.int (i : Nat), v])) := Wd.lay_le (s.free hn)
  refine ⟨_, lp, s.lay hn, ?_⟩
  have rl2 : RepL C (M'.lay p (.tup [.int (i : Nat), v])) [.int (0 + (i : Nat)), x] [.int (i : Nat), v] := by
    rw [show (0 : Int) + ((i : Nat) : Int) = ((i : Nat) : Int) by omega]
    exact .cons (.int _) (.cons (rv.mono lp) .nil)
  exact .tup (show upd M'.fz p _ p = _ from upd_same) rl2.1 rl2.2
theorem gives_rev {M : Wd} {d : D} {ds : List D} {a : Addr} (r : Rep C M d (.ref a)) (h : iFrz d = some ds) : Gives C M (Itv C.K a ds.length) ds.reverse := by
  intro M' S H l s i
  obtain ⟨vs, hs, rl⟩ := still l s r h
  refine ⟨fun hi => by rw [List.length_reverse] at hi; exact hi, fun d' hd => ?_⟩
  have hlt : i < ds.length := by
    have := (List.getElem?_eq_some_iff.mp hd).1
    rwa [List.length_reverse] at this
  rw [List.getElem?_reverse hlt] at hd
  obtain ⟨v, hv, rv⟩ := rl.get hd
  refine ⟨⟨hlt, vs, v, hs, hv⟩, fun y H' q => ?_⟩
  obtain ⟨rfl, hall⟩ := q
  have := hall vs hs
  rw [hv] at this; cases this
  exact ⟨M', .refl M', s, rv⟩
theorem gives_zipT {M : Wd} {d e : D} {ds es : List D} {a b : Addr} (r : Rep C M d (.ref a)) (h : tupV d = some ds) (r2 : Rep C M e (.ref b)) (h2 : tupV e = some es) : Gives C M (RZ.ItzT C.K a b) (zipD ds es) := by
  intro M' S H l s i
  obtain ⟨vs, hs, rl⟩ := stillT l s r h
  obtain ⟨ws, hs2, rl2⟩ := stillT l s r2 h2
  refine ⟨fun hi => ⟨vs, ws, hs, hs2, by rw [← rl.1, ← rl2.1]; exact zipD_len ds es i hi⟩, fun d' hd => ?_⟩
  obtain ⟨x, y, hx, hy, rfl⟩ := zipD_get ds es i d' hd
  obtain ⟨v, hv, rv⟩ := rl.get hx
  obtain ⟨w, hw, rw'⟩ := rl2.get hy
  refine ⟨⟨vs, ws, v, w, hs, hs2, hv, hw⟩, fun z H' q => ?_⟩
  obtain ⟨p, v', w', rfl, hn, rfl, hall, hall2⟩ := q
  have e1 := hall vs hs
  rw [hv] at e1; cases e1
  have e2 := hall2 ws hs2
  rw [hw] at e2; cases e2
  have lp : M'.le (M'.lay p (.tup [v, w])) := Wd.lay_le (s.free hn)
  refine ⟨_, lp, s.lay hn, ?_⟩
  have rl3 : RepL C (M'.lay p (.tup [v, w])) [x, y] [v, w] := .cons (rv.mono lp) (.cons (rw'.mono lp) .nil)
  exact .tup (show upd M'.fz p _ p = _ from upd_same) rl3.1 rl3.2
theorem gives_zipL {M : Wd} {d e : D} {ds es : List D} {a b : Addr} (r : Rep C M d (.ref a)) (h : iFrz d = some ds) (r2 : Rep C M e (.ref b)) (h2 : iFrz e = some es) : Gives C M (Itz C.K a b) (zipD ds es) := by
  intro M' S H l s i
  obtain ⟨vs, hs, rl⟩ := still l s r h
  obtain ⟨ws, hs2, rl2⟩ := still l s r2 h2
  refine ⟨fun hi => ⟨vs, ws, hs, hs2, by rw [← rl.1, ← rl2.1]; exact zipD_len ds es i hi⟩, fun d' hd => ?_⟩
  obtain ⟨x, y, hx, hy, rfl⟩ := zipD_get ds es i d' hd
  obtain ⟨v, hv, rv⟩ := rl.get hx
  obtain ⟨w, hw, rw'⟩ := rl2.get hy
  refine ⟨⟨vs, ws, v, w, hs, hs2, hv, hw⟩, fun z H' q => ?_⟩
  obtain ⟨p, v', w', rfl, hn, rfl, hall, hall2⟩ := q
  have e1 := hall vs hs
  rw [hv] at e1; cases e1
  have e2 := hall2 ws hs2
  rw [hw] at e2; cases e2
  have lp : M'.le (M'.lay p (.tup [v, w])) := Wd.lay_le (s.free hn)
  refine ⟨_, lp, s.lay hn, ?_⟩
  have rl3 : RepL C (M'.lay p (.tup [v, w])) [x, y] [v, w] := .cons (rv.mono lp) (.cons (rw'.mono lp) .nil)
  exact .tup (show upd M'.fz p _ p = _ from upd_same) rl3.1 rl3.2
end
def ofO {α : Type} (o : Option α) (S : Sto) : Res α := match o with
  | some a => .ok a S
  | none => .bad
def oEnum : List D → Option (List D)
  | [d] => (match iFrz d with
    | some xs => some (numD 0 xs)
    | none => none)
  | _ => none
def oZip : List D → Option (List D)
  | [d, e] => (match tupV d with
    | some xs => (match tupV e with
      | some ys => some (zipD xs ys)
      | none => none)
    | none => (match iFrz d with
      | some xs => (match iFrz e with
        | some ys => some (zipD xs ys)
        | none => none)
      | none => none))
  | _ => none
def oRev (d : D) : Option (List D) := match tupV d with
  | some xs => some xs.reverse
  | none => (match iFrz d with
    | some xs => some xs.reverse
    | none => none)
def fEnum : List D → Sto → Res (List D) := fun ds S => ofO (oEnum ds) S
def fZip : List D → Sto → Res (List D) := fun ds S => ofO (oZip ds) S
def aRev (fa : DE) : DA := fun Γ S => (fa Γ S).bind fun d S1 => ofO (oRev d) S1
section
variable {X : Cx} {C : Cfg} {W : XK} {fr : DA} {fa : DE}
theorem it_ofO {o : Option (List D)} {S1 : Sto} {P : List D → Sto → Prop} {Z : Nat → List (Nat × D) → Sto → Prop} (h : match ofO o S1 with
    | .ok ds S1 => P ds S1
    | .exc c fs S1 => Z c fs S1
    | .bad => False) : ∃ ds, o = some ds ∧ P ds S1 := by
  cases o with
  | none => exact h.elim
  | some ds => exact ⟨ds, rfl, h⟩
theorem wenum {e : Expr} {p pos tpos : Pos} {elts : List Expr} {kk : Nat} (hK : X.K = C.K) (hg : Gl X "enumerate") (hm : X.mg "enumerate" = none) (ha : PA X [e] (tA C W fr)) (hs : starEach [e] X.env = [(false, eval e X.env)] := by rfl) : ItD X C W (.Tuple elts kk tpos) (.Call (.Name "enumerate" p) [e] [] pos) (aBind fr fEnum) := by
  refine ⟨_, pi_enum hg hm ha hs, fun M Γ S σ H R g s h => runAI g s h fun M1 ds S1 xs H1 l1 s1 r1 h1 => ?_⟩
  obtain ⟨zs, e1, h1⟩ := it_ofO h1
  unfold oEnum at e1
  split at e1
  · rename_i d
    obtain ⟨v, rfl, rd⟩ := one_of r1
    split at e1
    · rename_i ys ei
      cases e1
      obtain ⟨a, vs, rfl, hs', rl⟩ : ∃ a vs, v = .ref a ∧ SqL C.K H1 a vs ∧ RepL C M1 ys vs := lst_of s1 rd (by cases d <;> simp [iFrz] at ei <;> simp [lstV, ei])
      exact ⟨a, vs, rfl, hK ▸ hs', h1 M1 H1 _ (.refl M1) s1 (by rw [hK]; exact gives_enum rd ei)⟩
    · cases e1
  · cases e1
theorem wzip {e e2 : Expr} {p pos tpos : Pos} {elts : List Expr} {kk : Nat} (hK : X.K = C.K) (hg : Gl X "zip") (hm : X.mg "zip" = none) (ha : PA X [e, e2] (tA C W fr)) (hs : starEach [e, e2] X.env = (false, eval e X.env) :: starEach [e2] X.env := by rfl) (hpl : (backTo pos (starEach [e2] X.env)).any (·.1) = false := by rfl) :
    ItD X C W (.Tuple elts kk tpos) (.Call (.Name "zip" p) [e, e2] [] pos) (aBind fr fZip) := by
  refine ⟨_, RZ.pi_zipA hg hm ha hs hpl, fun M Γ S σ H R g s h => runAI g s h fun M1 ds S1 xs H1 l1 s1 r1 h1 => ?_⟩
  obtain ⟨zs, e1, h1⟩ := it_ofO h1
  unfold oZip at e1
  split at e1
  · rename_i d d2
    obtain ⟨v, us, rfl, rd, rt⟩ := r1.cons_inv
    obtain ⟨v2, rfl, rd2⟩ := one_of rt
    split at e1
    · rename_i ys ei
      split at e1
      · rename_i ws ei2
        cases e1
        obtain ⟨a, vs, rfl, ha', rl⟩ := tup_of s1 rd ei
        obtain ⟨b, vs2, rfl, hb', rl2⟩ := tup_of s1 rd2 ei2
        exact ⟨a, b, vs, vs2, rfl, .inr ⟨hK ▸ ha', hK ▸ hb', h1 M1 H1 _ (.refl M1) s1 (by rw [hK]; exact gives_zipT rd ei rd2 ei2)⟩⟩
      · cases e1
    · split at e1
      · rename_i ys ei
        split at e1
        · rename_i ws ei2
          cases e1
          obtain ⟨a, vs, rfl, ha', rl⟩ : ∃ a vs, v = .ref a ∧ SqL C.K H1 a vs ∧ RepL C M1 ys vs := lst_of s1 rd (by cases d <;> simp [iFrz] at ei <;> simp [lstV, ei])
          obtain ⟨b, vs2, rfl, hb', rl2⟩ : ∃ a vs, v2 = .ref a ∧ SqL C.K H1 a vs ∧ RepL C M1 ws vs := lst_of s1 rd2 (by cases d2 <;> simp [iFrz] at ei2 <;> simp [lstV, ei2])
          exact ⟨a, b, vs, vs2, rfl, .inl ⟨hK ▸ ha', hK ▸ hb', h1 M1 H1 _ (.refl M1) s1 (by rw [hK]; exact gives_zipL rd ei rd2 ei2)⟩⟩
        · cases e1
      · cases e1
  · cases e1
theorem gives_revT {M : Wd} {d : D} {ds : List D} {a : Addr} (r : Rep C M d (.ref a)) (h : tupV d = some ds) : Gives C M (RT.ItvT C.K a ds.length) ds.reverse := by
  intro M' S H l s i
  obtain ⟨vs, hs, rl⟩ := stillT l s r h
  refine ⟨fun hi => by rw [List.length_reverse] at hi; exact hi, fun d' hd => ?_⟩
  have hlt : i < ds.length := by
    have := (List.getElem?_eq_some_iff.mp hd).1
    rwa [List.length_reverse] at this
  rw [List.getElem?_reverse hlt] at hd
  obtain ⟨v, hv, rv⟩ := rl.get hd
  refine ⟨⟨hlt, vs, v, hs, hv⟩, fun y H' q => ?_⟩
  obtain ⟨rfl, hall⟩ := q
  have := hall vs hs
  rw [hv] at this; cases this
  exact ⟨M', .refl M', s, rv⟩
theorem wrev {tg e : Expr} {p pos : Pos} (hK : X.K = C.K) (hg : Gl X "reversed") (hm : X.mg "reversed" = none) (he : PE X e (tE C W fa)) (hs : starEach [e] X.env = (false, eval e X.env) :: starEach [] X.env := by rfl) : ItD X C W tg (.Call (.Name "reversed" p) [e] [] pos) (aRev fa) := by
  refine ⟨_, RT.pi_revA hg hm he hs, fun M Γ S σ H R g s h => run1I g s h fun M1 d S1 v H1 l1 s1 r1 h1 => ?_⟩
  obtain ⟨zs, e1, h1⟩ := it_ofO h1
  unfold oRev at e1
  split at e1
  · rename_i ys ei
    cases e1
    obtain ⟨a, vs, rfl, ha', rl⟩ := tup_of s1 r1 ei
    exact ⟨a, vs, rfl, .inr ⟨hK ▸ ha', h1 M1 H1 _ (.refl M1) s1 (by rw [hK, ← rl.1]; exact gives_revT r1 ei)⟩⟩
  · split at e1
    · rename_i ys ei
      cases e1
      obtain ⟨a, vs, rfl, ha', rl⟩ : ∃ a vs, v = .ref a ∧ SqL C.K H1 a vs ∧ RepL C M1 ys vs := lst_of s1 r1 (by cases d <;> simp [iFrz] at ei <;> simp [lstV, ei])
      exact ⟨a, vs, rfl, .inl ⟨hK ▸ ha', h1 M1 H1 _ (.refl M1) s1 (by rw [hK, ← rl.1]; exact gives_rev r1 ei)⟩⟩
    · cases e1
end
end Pd

namespace Pd
open PySem PySem.Spec L2

/-! ### dict comprehensions, keys of either kind -/
def newO (b : Bool) : HO := match b with
  | true => .dT []
  | false => .dK []
theorem newO_ok {P : Program} {w : World} {H : Hp} (b : Bool) (h : Heap) (hb : sysModules < h.objs.size) : ObjOk P w H (h.push { cls := .type "dict", data := .dict #[] }) h.objs.size (newO b) := by
  cases b with
  | true => exact dt_empty h hb
  | false => exact dk_empty h hb
section
variable {X : Cx}
/-- the reading: Dd is the new dict; K i n is what stands ahead of turn i, at most n turns being left -/
def tDcG (b : Bool) (wi : TI) (g : TG) (tt : TT) (tk tv : TE) (vs : List Nat) : TE := fun σ0 H0 Q => wi σ0 H0 fun J Hi => ∀ Dd, Hi Dd = none → ∃ K : Nat → Nat → Hp → Prop, (∃ n, K 0 n (upd Hi Dd (newO b))) ∧ ∀ i n Ha, K i n Ha →
  (J.stop i Ha ∧ Q (.ref Dd) Ha) ∨ (J.go i Ha ∧ ∃ Nx : Hp → Prop, (∀ Hb, Nx Hb → ∃ n', n' < n ∧ K (i + 1) n' Hb) ∧ ∀ x Hb, J.yld i Ha x Hb → g x (wipe σ0 vs) Hb fun σ2 Hc => wipe σ2 vs = wipe σ0 vs ∧ tt σ2 Hc fun ok Hd =>
    if ok = true then tk σ2 Hd fun y He => tv σ2 He fun z Hf => ∃ Hg, DPut Hf Dd y z Hg ∧ Nx Hg else Nx Hd)
theorem dcg_run {pn : List (Addr × Obj)} {s0 : Shared} {σ0 : St} {H0 : Hp} {Q : VK} {b : Bool} {kx vx tg iter : Expr} {ifs : List Expr} {sc : Scope} {own : List (Str × Nat)} {p1 p2 : Pos} {wi : TI} {g : TG} {tt : TT} {tk tv : TE} {use : Option (Value → Sem Unit)} {Qf : Value → Shared → Prop}
    (hu : X.A.units < cLine) (hc : X.calm = true) (hN : X.N.Nodup) (I0 : Inv X pn σ0 H0 s0) (hi : PI X tg iter wi) (ok : BlkOk X.N X.env.scope sc own)
    (pg : ∀ (s : Shared) (H : Hp) (c : Addr) (cl : List (Str × Addr)) (fp : List Addr), PG (X.blk s H sc (compEnvC sc cl c X.env) fp) tg g) (pt : ∀ (s : Shared) (H : Hp) (c : Addr) (cl : List (Str × Addr)) (fp : List Addr), PTs (X.blk s H sc (compEnvC sc cl c X.env) fp) ifs tt)
    (pk : ∀ (s : Shared) (H : Hp) (c : Addr) (cl : List (Str × Addr)) (fp : List Addr), PE (X.blk s H sc (compEnvC sc cl c X.env) fp) kx tk)
    (pv : ∀ (s : Shared) (H : Hp) (c : Addr) (cl : List (Str × Addr)) (fp : List Addr), PE (X.blk s H sc (compEnvC sc cl c X.env) fp) vx tv) (hs : ∀ x, foldedSetIterable iter X.env x = pure x)
    (h : tDcG b wi g tt tk tv (own.map (·.2)) σ0 H0 Q)
    (fin : ∀ Dd c s' m H', Inv X pn σ0 H' s' → Q (.ref Dd) H' → s'.heap.Ns c m → FpOk X pn H' c → compPost (model X.prog X.w) X.A X.xe use Qf (.ref Dd) c (.ok .next) s') :
    wpAny (model X.prog X.w) X.A (comprehension (.DictComp kx vx [⟨tg, iter, ifs, 0⟩] sc p1) sc X.env p2 newDict false (eval iter X.env) use) Qf X.xe s0 := by
  have caught : ∀ y ∈ sc.names, y.2 = .free → ∃ c, X.env.cells.lookup y.1 = some c := fun y hy e => (ok.free y hy e).elim (fun k => I0.ok.has _ (.inl k)) fun k => I0.ok.has _ (.inr k)
  refine wpAny_comprehension_free (use := use) rfl hs (closure_ok caught) ok.kind (fun y hy e => by rw [ok.uniq y hy, e]) (thn (hi.run pn s0 σ0 H0 _ I0 h) fun _ s1 hx => thn hx fun _ s2 h2 => ?_)
  obtain ⟨it, fp, tn, J, Hi, rfl, I2, T, st2, f2, q⟩ := h2
  refine wpAny_newObj_type (newEnv_comp ?_); generalize eD : s2.heap.objs.size = Dd
  have freeD : Hi Dd = none := I2.hok.fresh (Nat.le_of_eq eD)
  obtain ⟨K, ⟨n0, k0⟩, turn⟩ := q Dd freeD
  -- the empty dict is laid
  generalize e3 : ({ s2 with heap := s2.heap.push { cls := .type "dict", data := .dict #[] } } : Shared) = s3
  have grew : s3.heap = s2.heap.push { cls := .type "dict", data := .dict #[] } := by rw [← e3]
  have I3 : Inv X pn σ0 (upd Hi Dd (newO b)) s3 := by
    rw [← e3]
    exact I2.laid (t' := s2.toks) (fun _ _ e => Heap.get?_push_of_some _ e) (Nat.le_of_eq eD) (by rw [← eD]; exact newO_ok b s2.heap I2.big)
  have young : ∀ c ∈ fp, c < s2.heap.objs.size := fun c hc' => let ⟨_, e, _⟩ := T.obj _ _ st2 c hc'; Heap.lt_size e
  have f3 : ∀ c ∈ fp, FpOk X pn (upd Hi Dd (newO b)) c ∧ c < s3.heap.objs.size := fun c hc' => by
    have lt := young c hc'
    have apart : c ≠ Dd := by rw [← eD]; exact Nat.ne_of_lt lt
    exact ⟨⟨(upd_ne apart).trans (f2 c hc').1, (f2 c hc').2⟩, by rw [grew, Heap.size_push]; exact Nat.lt_succ_of_lt lt⟩
  have st3 : tn 0 s3.heap := T.keep _ _ _ st2 fun _ _ _ e => by rw [grew]; exact Heap.get?_push_of_some _ e
  have I4 := block_start I3 ok hN f3; have pg0 := pg s3 (upd Hi Dd (newO b)) s3.heap.objs.size (cellsFrom (s3.heap.objs.size + 1) sc.names (cloFrom X.env.cells sc.names [])) fp
  have pt0 := pt s3 (upd Hi Dd (newO b)) s3.heap.objs.size (cellsFrom (s3.heap.objs.size + 1) sc.names (cloFrom X.env.cells sc.names [])) fp
  have pk0 := pk s3 (upd Hi Dd (newO b)) s3.heap.objs.size (cellsFrom (s3.heap.objs.size + 1) sc.names (cloFrom X.env.cells sc.names [])) fp
  have pv0 := pv s3 (upd Hi Dd (newO b)) s3.heap.objs.size (cellsFrom (s3.heap.objs.size + 1) sc.names (cloFrom X.env.cells sc.names [])) fp
  show codeAny _ _ (.compStart (.DictComp kx vx [⟨tg, iter, ifs, 0⟩] sc p1) 0 (.ref it) (.ref Dd) (compEnvC sc (cellsFrom (s3.heap.objs.size + 1) sc.names (cloFrom X.env.cells sc.names [])) s3.heap.objs.size X.env)) (compPost (model X.prog X.w) X.A X.xe use Qf (.ref Dd) s3.heap.objs.size) { s3 with heap := pushCells (s3.heap.push { cls := .type "dict", data := .dict #[] }) sc.names }
  have none3 : ∀ c ∈ fp, (upd Hi Dd (newO b)) c = none := fun c hc' => (f3 c hc').1.1
  generalize ece : compEnvC sc (cellsFrom (s3.heap.objs.size + 1) sc.names (cloFrom X.env.cells sc.names [])) s3.heap.objs.size X.env = ce at I4 pg0 pt0 pk0 pv0 ⊢
  have eL : ce.locals = s3.heap.objs.size := by subst ece; rfl
  generalize eH3 : upd Hi Dd (newO b) = H3 at I3 I4 pg0 pt0 pk0 pv0 k0 none3 f3
  generalize e4 : ({ s3 with heap := pushCells (s3.heap.push { cls := .type "dict", data := .dict #[] }) sc.names } : Shared) = s4 at I4 ⊢
  have st4 : tn 0 s4.heap := T.keep _ _ _ st3 fun _ _ _ e => by rw [← e4]; exact pushCells_keeps _ _ _ _ (Heap.get?_push_of_some _ e)
  have turns : ∀ {σ' : St} {H' : Hp} {s' : Shared}, Inv (X.blk s3 H3 sc ce fp) [] σ' H' s' → (∀ c ∈ fp, H' c = none) → ∀ c ∈ fp, FpOk (X.blk s3 H3 sc ce fp) [] H' c := fun I' hn c hc' =>
    ⟨hn c hc', (I'.ok.exf c hc').1, I'.ok.exfs c hc', .inl hc', fun x cc e => (I'.ok.exf c hc').2 x cc e, fun p hp => absurd (show p ∈ ([] : List (Addr × Obj)) ++ [] from hp) (by simp)⟩
  suffices loop : codeAny (model X.prog X.w) X.A (.compLoop (.DictComp kx vx [⟨tg, iter, ifs, 0⟩] sc p1) 0 (.ref it) (.ref Dd) ce) (compPost (model X.prog X.w) X.A X.xe use Qf (.ref Dd) s3.heap.objs.size) s4 from codeAny_compStart_dict loop (T.self X.A 0 _ _ _ st4 loop)
  refine compLoop_anyD (fun n s' => ∃ i H', Inv (X.blk s3 H3 sc ce fp) [] (wipe σ0 (own.map (·.2))) H' s' ∧ tn i s'.heap ∧ (∀ c ∈ fp, H' c = none) ∧ K i n H') ?_ n0 ⟨0, H3, I4, st4, none3, k0⟩
  rintro n s5 ⟨i, H5, I5, st5, n5, k5⟩
  rcases turn i n H5 k5 with ⟨stop, qq⟩ | ⟨go, Nx, down, step⟩
  · refine thnF (T.done (X.blk s3 H3 sc ce fp) rfl rfl rfl hc i [] s5 _ H5 (fun _ _ => False) I5 (turns I5 n5) st5 stop) fun r s6 ⟨er, I6⟩ => ?_
    subst er
    have I7 : Inv X pn σ0 H5 s6 := I3.call' (ch := fp) I6.os I6.base I6.hok I6.bare fun c hc' => ⟨(f3 c hc').1.2.2.2.1, (f3 c hc').1.2.1, (f3 c hc').1.2.2.2.2.1, (f3 c hc').1.2.2.2.2.2⟩
    have noC : H5 s3.heap.objs.size = none := by rw [← eL]; exact I6.free
    obtain ⟨m, hn, _⟩ := I6.loc
    have hn : s6.heap.Ns ce.locals m := hn; rw [eL] at hn
    exact fin Dd s3.heap.objs.size s6 m H5 I7 qq hn (I3.fpOk (Nat.le_refl _) noC)
  · refine thnF (T.item (X.blk s3 H3 sc ce fp) rfl rfl rfl hc i [] s5 _ H5 (fun _ _ => False) I5 (turns I5 n5) st5 go) fun r s6 ⟨u, er, h6⟩ => ?_
    subst er
    refine thnF h6 fun _ s7 ⟨x, H7, I7, r7, y7, st7, n7⟩ => ?_; have I7' := I7.pinned (turns I7 n7) (T.obj _ _ st7)
    refine thnF (pg0.run _ s7 _ H7 x u _ I7' r7 (step x H7 y7)) fun _ s8 ⟨σ8, H8, I8, w8, q8⟩ => ?_
    refine thnF (pt0.run _ s8 σ8 H8 _ I8 q8) fun okb s9 ⟨H9, I9, q9⟩ => ?_
    have again : ∀ {s' : Shared} {H' : Hp}, Inv (X.blk s3 H3 sc ce fp) ([] ++ pinsAt fp s7.heap) σ8 H' s' → Nx H' → ∃ m, m < n ∧ ∃ i H', Inv (X.blk s3 H3 sc ce fp) [] (wipe σ0 (own.map (·.2))) H' s' ∧ tn i s'.heap ∧ (∀ c ∈ fp, H' c = none) ∧ K i m H' := fun {s' H'} I' nx => by
      obtain ⟨n', ln, k'⟩ := down H' nx
      have stays : ∀ c ∈ fp, ∀ o, s7.heap.get? c = some o → s'.heap.get? c = some o ∧ H' c = none := fun c hc' o e => let z := I'.pin (c, o) (List.mem_append_right _ (List.mem_append_right _ (mem_pinsAt hc' e))); ⟨z.1, z.2.1⟩
      have len8 : (wipe σ0 (own.map (·.2))).length = σ8.length := by rw [← w8, wipe_length]
      refine ⟨n', ln, i + 1, H', (I'.unpinned (pins := [])).weak len8 (fun j v e => (wipe_some (by rw [w8]; exact e)).1), T.keep _ _ _ st7 fun c hc' o e => (stays c hc' o e).1, fun c hc' => ?_, k'⟩
      obtain ⟨o, e, _⟩ := T.obj _ _ st7 c hc'
      exact (stays c hc' o e).2
    cases okb with
    | false =>
      have q9 : Nx H9 := q9
      show ∃ m, m < n ∧ _
      exact again I9 q9
    | true =>
      have q9 : tk σ8 H9 fun y He => tv σ8 He fun z Hf => ∃ Hg, DPut Hf Dd y z Hg ∧ Nx Hg := q9
      refine thnF (pk0.run _ s9 σ8 H9 _ I9 q9) fun uk s10 ⟨y, H10, I10, r10, q10⟩ => ?_
      refine thnF (pv0.run _ s10 σ8 H10 _ I10 q10) fun uv s11 ⟨z, H11, I11, r11, Hg, dp, nx⟩ => ?_
      exact laid_one (X := X.blk s3 H3 sc ce fp) hu I11 dp r10 r11 fun s12 I12 => again I12 nx
theorem pe_dcg (b : Bool) {kx vx tg iter : Expr} {ifs : List Expr} {sc : Scope} {own : List (Str × Nat)} {pos : Pos} {wi : TI} {g : TG} {tt : TT} {tk tv : TE} (hu : X.A.units < cLine) (hc : X.calm = true) (hN : X.N.Nodup) (hi : PI X tg iter wi) (ok : BlkOk X.N X.env.scope sc own)
    (pg : ∀ (s : Shared) (H : Hp) (c : Addr) (cl : List (Str × Addr)) (fp : List Addr), PG (X.blk s H sc (compEnvC sc cl c X.env) fp) tg g) (pt : ∀ (s : Shared) (H : Hp) (c : Addr) (cl : List (Str × Addr)) (fp : List Addr), PTs (X.blk s H sc (compEnvC sc cl c X.env) fp) ifs tt)
    (pk : ∀ (s : Shared) (H : Hp) (c : Addr) (cl : List (Str × Addr)) (fp : List Addr), PE (X.blk s H sc (compEnvC sc cl c X.env) fp) kx tk)
    (pv : ∀ (s : Shared) (H : Hp) (c : Addr) (cl : List (Str × Addr)) (fp : List Addr), PE (X.blk s H sc (compEnvC sc cl c X.env) fp) vx tv) (hs : ∀ x, foldedSetIterable iter X.env x = pure x := by intro _; rfl) :
    PE X (.DictComp kx vx [⟨tg, iter, ifs, 0⟩] sc pos) (tDcG b wi g tt tk tv (own.map (·.2))) := ⟨fun pn s0 σ0 H0 Q I q => by
  rw [arm_eval_DictComp]
  exact dcg_run hu hc hN I hi ok pg pt pk pv hs q fun Dd c s' m H' I' q' hn f => ⟨m, hn, fun h'' sb => ⟨.ref Dd, H', I'.turned (t' := s'.toks) (fun a o ha e => (sb.2 a ha).trans e) f.1 f.2.1 f.2.2.2.1 f.2.2.2.2.1 f.2.2.2.2.2, rfl, q'⟩⟩⟩
end
end Pd

namespace Pd
open PySem PySem.Spec L2
section
variable {X : Cx}
theorem swd_true {kx vx : Expr} {gs : List Comprehension} {sc : Scope} {pos py : Pos} {y : Str} {l : Nat} {env : Env} (hk : env.scope.kind = .function) (hy : env.scope.names.lookup y = some .local) (hl : (py.line == pos.line) = true)
    (ha : (sc.names.any fun (n, k) => n == y && (k == .local || k == .cell)) = false) : swapsWith (.DictComp kx vx gs sc pos) (some (.Name y py)) l env = pure true := by
  have e1 : env.kindOf y = some .local := hy
  have e2 : env.blockKind = .function := by unfold Env.blockKind; rw [hk]; rfl
  unfold swapsWith
  simp only [e2, e1, ha, Expr.pos, hl]
  rfl
/-- name = {.. for ..} on one line -/
theorem ps_setDc (b : Bool) {i : Nat} {y : Str} {py spos : Pos} {kx vx tg iter : Expr} {ifs : List Expr} {sc : Scope} {own : List (Str × Nat)} {pos : Pos} {wi : TI} {g : TG} {tt : TT} {tk tv : TE} (hu : X.A.units < cLine) (hc : X.calm = true) (hN : X.N.Nodup) (hy : X.N[i]? = some y) (hyl : X.env.scope.names.lookup y = some .local)
    (hsw : swapsWith (.DictComp kx vx [⟨tg, iter, ifs, 0⟩] sc pos) (some (.Name y py)) spos.line X.env = pure true) (hi : PI X tg iter wi) (ok : BlkOk X.N X.env.scope sc own)
    (pg : ∀ (s : Shared) (H : Hp) (c : Addr) (cl : List (Str × Addr)) (fp : List Addr), PG (X.blk s H sc (compEnvC sc cl c X.env) fp) tg g) (pt : ∀ (s : Shared) (H : Hp) (c : Addr) (cl : List (Str × Addr)) (fp : List Addr), PTs (X.blk s H sc (compEnvC sc cl c X.env) fp) ifs tt)
    (pk : ∀ (s : Shared) (H : Hp) (c : Addr) (cl : List (Str × Addr)) (fp : List Addr), PE (X.blk s H sc (compEnvC sc cl c X.env) fp) kx tk)
    (pv : ∀ (s : Shared) (H : Hp) (c : Addr) (cl : List (Str × Addr)) (fp : List Addr), PE (X.blk s H sc (compEnvC sc cl c X.env) fp) vx tv) (hs : ∀ x, foldedSetIterable iter X.env x = pure x := by intro _; rfl) :
    PS X (.Assign [.Name y py] (.DictComp kx vx [⟨tg, iter, ifs, 0⟩] sc pos) spos) (tAsg (tDcG b wi g tt tk tv (own.map (·.2))) (gName i)) := ⟨fun pn s0 σ0 H0 E I q => by
  rw [exec_Assign_Name_used _ _ _ _ hsw]; refine wpAny_bind (wpAny_standAt (wpAny_bind ?_))
  show wpAny _ X.A (do let _ ← comprehension (.DictComp kx vx [⟨tg, iter, ifs, 0⟩] sc pos) sc X.env (firstIterPos [⟨tg, iter, ifs, 0⟩] pos) newDict false (eval iter X.env) (some (assign (.Name y py) X.env))) _ _ s0
  have q : tDcG b wi g tt tk tv (own.map (·.2)) σ0 H0 (fun x H1 => gName i x σ0 H1 E.nx) := q
  refine wpAny_bind (thn (dcg_run (Qf := fun _ s' => SP X pn E .next s') hu hc hN I hi ok pg pt pk pv hs q fun Dd c s' m H' I' q' hn f => ?_) fun _ s' z => wpAny_pure (wpAny_pure z))
  show wpAny _ _ (assign (.Name y py) X.env (.ref Dd)) _ _ _
  refine wpAny_assign_Name (store_ok2 (v := V.ref Dd) I' hN hy (.inl hyl) rfl (fun s2 I2 ⟨a, sb, ha⟩ => ?_) (.inr hyl))
  have other : c ≠ a := ha.elim (fun z => by rw [z]; exact f.2.1) fun z e => f.2.2.2.2.1 y a z e.symm
  exact ⟨m, hn.sameBut sb other, fun h3 sb3 => ⟨_, H', I2.turned (t' := s2.toks) (fun a o ha e => (sb3.2 a ha).trans e) f.1 f.2.1 f.2.2.2.1 f.2.2.2.2.1 f.2.2.2.2.2, q'⟩⟩⟩
end

/-! ### by data -/
def loopCD (gt : D → Ga → Sto → Option Ga) (ft : DT) (fk fv : DE) (Γ : Ga) (n : Nat) : List D → Sto → Option Sto
  | [], S => some S
  | d :: r, S => (match gt d Γ S with
    | some Γ1 => (match ft Γ1 S with
      | .ok true S1 => (match fk Γ1 S1 with
        | .ok k S2 => (match fv Γ1 S2 with
          | .ok v S3 => (match fPutD (.ref n) k v S3 with
            | some S4 => loopCD gt ft fk fv Γ n r S4
            | none => none)
          | _ => none)
        | _ => none)
      | .ok false S1 => loopCD gt ft fk fv Γ n r S1
      | _ => none)
    | none => none)
def dDc (b : Bool) (fin : D → Sto → Res D) (fi : DI) (gt : D → Ga → Sto → Option Ga) (ft : DT) (fk fv : DE) (vs : List Nat) : DE := fun Γ S => (fi Γ S).bind fun p S1 => match loopCD gt ft fk fv (wipeG Γ vs) S1.nx p.1 (S1.new (newD b)) with
  | some S2 => (match unl p.2 S2 with
    | some S3 => fin (.ref S1.nx) S3
    | none => .bad)
  | none => .bad
section
variable {X : Cx} {C : Cfg} {W : XK} {vs : List Nat} {scope : Scope} {pos : Pos}
theorem newD_rep {M : Wd} (b : Bool) : RepM C M (newD b) (newO b) := by
  cases b with
  | true => exact ⟨[], rfl, RepG.nil⟩
  | false => exact ⟨[], rfl, RepG.nil⟩
theorem dc_rd (b : Bool) {tg iter : Expr} {fi : DI} {gt : D → Ga → Sto → Option Ga} {ft : DT} {fk fv : DE} {fin : D → Sto → Res D} {wi : TI} {t : TG} (hfin : FinOk C W fin)
    (k : ∀ (M : Wd) (Γ : Ga) (S : Sto) (σ : St) (H : Hp) (R : It → Hp → Prop), SimG C M Γ σ → Sim C M S H →
    (match fi Γ S with
      | .ok (ds, k) S1 => ∀ M1 H1 J, M.le M1 → Sim C M1 S1 H1 → Gives C M1 J ds → EndOk X C M M1 k → R J H1
      | .exc c fs S1 => ∀ M' cls dd H', M.le M' → Sim C M' S1 H' → RepX C M' H' cls dd c fs → W cls dd H'
      | .bad => False) → wi σ H R)
    (kt : ∀ (M : Wd) (S : Sto) (Γ Γ' : Ga) (σ : St) (H : Hp) (d : D) (v : V) (Q : St → Hp → Prop), SimG C M Γ σ → Sim C M S H → Rep C M d v → gt d Γ S = some Γ' →
      (∀ σ', SimG C M Γ' σ' → wipe σ' vs = wipe σ vs → Q σ' H) → t v σ H Q) {σ : St} {H : Hp} {Q : VK} (h : tE C W (dDc b fin fi gt ft fk fv vs) σ H Q) : tDcG b wi t (tT C W0 ft) (tE C W0 fk) (tE C W0 fv) vs σ H fun v H1 => ∃ H', BackTo X H1 H' ∧ Q v H' := by
  obtain ⟨M, Γ, S, g, s, h⟩ := h
  refine k M Γ S σ H _ g s ?_
  have h : GoodE C M ((fi Γ S).bind fun p S1 => match loopCD gt ft fk fv (wipeG Γ vs) S1.nx p.1 (S1.new (newD b)) with
    | some S2 => (match unl p.2 S2 with
      | some S3 => fin (.ref S1.nx) S3
      | none => .bad)
    | none => .bad) Q W := h
  cases e : fi Γ S with
  | bad => rw [e] at h; exact h
  | exc c fs S1 => rw [e] at h; exact h
  | ok p S1 =>
    obtain ⟨ds, uk⟩ := p
    rw [e] at h
    have h : GoodE C M (match loopCD gt ft fk fv (wipeG Γ vs) S1.nx ds (S1.new (newD b)) with
      | some S2 => (match unl uk S2 with
        | some S3 => fin (.ref S1.nx) S3
        | none => .bad)
      | none => .bad) Q W := h
    cases el : loopCD gt ft fk fv (wipeG Γ vs) S1.nx ds (S1.new (newD b)) with
    | none => rw [el] at h; exact h.elim
    | some S2 =>
    rw [el] at h
    intro M1 H1 J l1 s1 gv en Dd hD
    have lb : M1.le (M1.bind S1.nx Dd) := Wd.bind_le s1
    have sb : Sim C (M1.bind S1.nx Dd) (S1.new (newD b)) (upd H1 Dd (newO b)) := s1.bindNew hD (newD_rep b)
    have hmu : (M1.bind S1.nx Dd).mu S1.nx = some Dd := if_pos rfl
    refine ⟨fun i m H => ∃ M' S' r, (M1.bind S1.nx Dd).le M' ∧ Sim C M' S' H ∧ r = ds.drop i ∧ m = r.length ∧ i ≤ ds.length ∧ loopCD gt ft fk fv (wipeG Γ vs) S1.nx r S' = some S2, ⟨_, _, _, ds, .refl _, sb, rfl, rfl, Nat.zero_le _, el⟩, ?_⟩
    rintro i m H ⟨M', S', r, l', s', er, em, hle, h'⟩
    have lM : M1.le M' := lb.trans l'
    obtain ⟨gs, gg⟩ := gv M' S' H lM s' i
    cases r with
    | nil =>
      have : ds.length ≤ i := by
        have := congrArg List.length er
        simp at this; omega
      have e2 : S' = S2 := by unfold loopCD at h'; exact Option.some.inj h'
      subst e2
      have h : GoodE C M (match unl uk S' with
        | some S3 => fin (.ref S1.nx) S3
        | none => .bad) Q W := h
      split at h
      · rename_i S3 e3
        obtain ⟨M'', H'', l2, lv, s2, bk⟩ := en M' S' S3 H lM s' e3
        exact .inl ⟨gs this, H'', bk, hfin M'' S3 H'' _ _ Q s2 (.ref (lv.2 _ _ (l'.2.1 _ _ hmu))) (GoodE.mono l2 h)⟩
      · exact h.elim
    | cons d r =>
      have hd : ds[i]? = some d := by
        have h1 : (ds.drop i)[0]? = some d := by rw [← er]; rfl
        simpa using h1
      have hr : r = ds.drop (i + 1) := by
        rw [show ds.drop (i + 1) = (ds.drop i).drop 1 by rw [List.drop_drop], ← er]; rfl
      have hlt : i < ds.length := (List.getElem?_eq_some_iff.mp hd).1
      obtain ⟨go, yl⟩ := gg d hd
      refine .inr ⟨go, fun H => ∃ M' S', (M1.bind S1.nx Dd).le M' ∧ Sim C M' S' H ∧ loopCD gt ft fk fv (wipeG Γ vs) S1.nx r S' = some S2, fun H' ⟨M2, S3, a, b, c⟩ => ⟨r.length, by rw [em]; simp, M2, S3, r, a, b, hr, rfl, hlt, c⟩, fun x H' y => ?_⟩
      obtain ⟨M2, l2, s2, rx⟩ := yl x H' y
      unfold loopCD at h'
      cases eg : gt d (wipeG Γ vs) S' with
      | none => rw [eg] at h'; cases h'
      | some Γ1 =>
        rw [eg] at h'
        have g0 : SimG C M2 (wipeG Γ vs) (wipe σ vs) := (wipeG_ok g vs).mono ((l1.trans lM).trans l2)
        refine kt M2 S' (wipeG Γ vs) Γ1 (wipe σ vs) H' d x _ g0 s2 rx eg fun σ1 g1 w1 => ⟨w1.trans (wipe_wipe σ vs), M2, Γ1, S', g1, s2, ?_⟩
        have h' : (match ft Γ1 S' with
          | .ok true S1' => (match fk Γ1 S1' with
            | .ok k S2' => (match fv Γ1 S2' with
              | .ok v S3' => (match fPutD (.ref S1.nx) k v S3' with
                | some S4 => loopCD gt ft fk fv (wipeG Γ vs) S1.nx r S4
                | none => none)
              | _ => none)
            | _ => none)
          | .ok false S1' => loopCD gt ft fk fv (wipeG Γ vs) S1.nx r S1'
          | _ => none) = some S2 := h'
        cases eft : ft Γ1 S' with
        | bad => rw [eft] at h'; cases h'
        | exc c fs S3 => rw [eft] at h'; cases h'
        | ok okb S3 =>
          rw [eft] at h'
          intro M3 H3 l3 s3
          cases okb with
          | false => exact iteF ⟨M3, S3, (l'.trans l2).trans l3, s3, h'⟩
          | true =>
            refine iteT ⟨M3, Γ1, S3, g1.mono l3, s3, ?_⟩
            have h' : (match fk Γ1 S3 with
              | .ok k S2' => (match fv Γ1 S2' with
                | .ok v S3' => (match fPutD (.ref S1.nx) k v S3' with
                  | some S4 => loopCD gt ft fk fv (wipeG Γ vs) S1.nx r S4
                  | none => none)
                | _ => none)
              | _ => none) = some S2 := h'
            cases efk : fk Γ1 S3 with
            | bad => rw [efk] at h'; cases h'
            | exc c fs S3 => rw [efk] at h'; cases h'
            | ok dk S4 =>
              rw [efk] at h'
              intro M4 yk H4 l4 s4 r4
              refine ⟨M4, Γ1, S4, (g1.mono l3).mono l4, s4, ?_⟩
              have h' : (match fv Γ1 S4 with
                | .ok v S3' => (match fPutD (.ref S1.nx) dk v S3' with
                  | some S4 => loopCD gt ft fk fv (wipeG Γ vs) S1.nx r S4
                  | none => none)
                | _ => none) = some S2 := h'
              cases efv : fv Γ1 S4 with
              | bad => rw [efv] at h'; cases h'
              | exc c fs S3 => rw [efv] at h'; cases h'
              | ok dv S5 =>
                rw [efv] at h'
                intro M5 yv H5 l5 s5 r5
                have h' : (match fPutD (.ref S1.nx) dk dv S5 with
                  | some S4 => loopCD gt ft fk fv (wipeG Γ vs) S1.nx r S4
                  | none => none) = some S2 := h'
                split at h'
                · rename_i S6 e6
                  have lall : (M1.bind S1.nx Dd).le M5 := (((l'.trans l2).trans l3).trans l4).trans l5
                  obtain ⟨a, H6, ea, dp, s6⟩ := dput_of s5 (.ref (lall.2.1 _ _ hmu)) (r4.mono l5) r5 e6
                  cases ea
                  exact ⟨H6, dp, M5, S6, lall, s6, h'⟩
                · cases h'
theorem xdc (b : Bool) {kx vx tg iter : Expr} {ifs : List Expr} {own : List (Str × Nat)} {fi : DI} {gt : D → Ga → Sto → Option Ga} {ft : DT} {fk fv : DE} {fin : D → Sto → Res D} (hfin : FinOk C W fin) (hu : X.A.units < cLine) (hc : X.calm = true) (hN : X.N.Nodup) (hi : ItU X C W tg iter fi) (ok : BlkOk X.N X.env.scope scope own)
    (hg : TgU X C scope tg (own.map (·.2)) gt) (ht : ∀ (s : Shared) (H : Hp) (c : Addr) (cl : List (Str × Addr)) (fp : List Addr), PTs (X.blk s H scope (compEnvC scope cl c X.env) fp) ifs (tT C W0 ft))
    (hk : ∀ (s : Shared) (H : Hp) (c : Addr) (cl : List (Str × Addr)) (fp : List Addr), PE (X.blk s H scope (compEnvC scope cl c X.env) fp) kx (tE C W0 fk))
    (hv : ∀ (s : Shared) (H : Hp) (c : Addr) (cl : List (Str × Addr)) (fp : List Addr), PE (X.blk s H scope (compEnvC scope cl c X.env) fp) vx (tE C W0 fv)) (hs : ∀ x, foldedSetIterable iter X.env x = pure x := by intro _; rfl) :
    PE X (.DictComp kx vx [⟨tg, iter, ifs, 0⟩] scope pos) (tE C W (dDc b fin fi gt ft fk fv (own.map (·.2)))) := by
  obtain ⟨wi, hwi, k⟩ := hi
  obtain ⟨t, htg, kt⟩ := hg
  exact (pe_unl (pe_dcg b hu hc hN hwi ok htg ht hk hv hs)).by fun σ H Q h => dc_rd b (tg := tg) (iter := iter) hfin k kt h
theorem ysetDc (b : Bool) {i : Nat} {y : Str} {py spos : Pos} {kx vx tg iter : Expr} {ifs : List Expr} {own : List (Str × Nat)} {fi : DI} {gt : D → Ga → Sto → Option Ga} {ft : DT} {fk fv : DE} {fin : D → Sto → Res D} (hfin : FinOk C W fin) (hu : X.A.units < cLine) (hc : X.calm = true) (hN : X.N.Nodup) (hy : X.N[i]? = some y) (hyl : X.env.scope.names.lookup y = some .local)
    (hsw : swapsWith (.DictComp kx vx [⟨tg, iter, ifs, 0⟩] scope pos) (some (.Name y py)) spos.line X.env = pure true) (hi : ItU X C W tg iter fi) (ok : BlkOk X.N X.env.scope scope own)
    (hg : TgU X C scope tg (own.map (·.2)) gt) (ht : ∀ (s : Shared) (H : Hp) (c : Addr) (cl : List (Str × Addr)) (fp : List Addr), PTs (X.blk s H scope (compEnvC scope cl c X.env) fp) ifs (tT C W0 ft))
    (hk : ∀ (s : Shared) (H : Hp) (c : Addr) (cl : List (Str × Addr)) (fp : List Addr), PE (X.blk s H scope (compEnvC scope cl c X.env) fp) kx (tE C W0 fk))
    (hv : ∀ (s : Shared) (H : Hp) (c : Addr) (cl : List (Str × Addr)) (fp : List Addr), PE (X.blk s H scope (compEnvC scope cl c X.env) fp) vx (tE C W0 fv)) (hs : ∀ x, foldedSetIterable iter X.env x = pure x := by intro _; rfl) :
    PS X (.Assign [.Name y py] (.DictComp kx vx [⟨tg, iter, ifs, 0⟩] scope pos) spos) (tS C W (sSet (dDc b fin fi gt ft fk fv (own.map (·.2))) i)) := by
  obtain ⟨wi, hwi, k⟩ := hi
  obtain ⟨t, htg, kt⟩ := hg
  refine (ps_unl (ps_setDc b hu hc hN hy hyl hsw hwi ok htg ht hk hv hs)).by fun E σ H ⟨M, Γ, S, g, s, h⟩ => ?_
  refine dc_rd b (W := W) (tg := tg) (iter := iter) (fin := fin) hfin k kt (Q := fun x H1 => gName i x σ H1 E.nx) ?_
  exact run1S g s h fun M1 d S1 x H1 l1 s1 r1 h1 => h1.nxt ((g.mono l1).set r1 i) s1
end
end Pd

namespace Pd
open PySem PySem.Spec L2

/-! ### things of the module -/
section
variable {X : Cx} {C : Cfg} {W : XK}
/-- a constant of the module: what it is, in whatever state -/
def KRep (C : Cfg) (d : D) (v : V) : Prop := ∀ M, Rep C M d v
theorem xglo {x : Str} {v : V} {u : Value} {d : D} {pos : Pos} (hg : Gl X x) (hm : X.mg x = some u) (rv : RelV v u) (r : KRep C d v) (hd : (x == ("__debug__" : Str)) = false := by decide) : PE X (.Name x pos) (tE C W (dC d)) := cst (pe_glob hg hm rv hd) r
theorem xty {x : Str} {T : String} {pos : Pos} (hg : Gl X x) (hm : X.mg x = none) (hv : bootBuiltins x = some (.type T)) (hn : x ≠ "__name__" := by decide) (hd : (x == ("__debug__" : Str)) = false := by decide) : PE X (.Name x pos) (tC (.ty T)) := pe_bltn hg hm hv rfl hn hd
end

/-! ### starred arguments -/
def aStar (fa : DE) (fr : DA) : DA := fun Γ S => (fa Γ S).bind fun d S1 => match seqV S1 d with
  | some xs => (fr Γ S1).bind fun ys S2 => .ok (xs ++ ys) S2
  | none => .bad
section
variable {X : Cx} {C : Cfg} {W : XK} {fa : DE} {fr : DA} {e : Expr} {es : List Expr} {p pos : Pos}
theorem xastar (hK : X.K = C.K) (ha : PE X e (tE C W fa)) (hr : PA X es (tA C W fr)) (hs : starEach (.Starred e p :: es) X.env = (true, eval e X.env) :: starEach es X.env := by rfl) : PA X (.Starred e p :: es) (tA C W (aStar fa fr)) :=
  (StX.pa_star ha hr hs).by fun σ H Q ⟨M, Γ, S, g, s, h⟩ => run1A g s h fun M1 d S1 x H1 l1 s1 r1 h1 => by
    split at h1
    · rename_i xs ex
      obtain ⟨a, vs, rfl, hq, rl⟩ := seq_of s1 r1 ex
      refine ⟨a, vs, rfl, (by rw [hK]; exact hq.symm), runAA (g.mono l1) s1 h1 fun M2 ys S2 ws H2 l2 s2 r2 h2 => ?_⟩
      exact GoodA.ok h2 s2 ((rl.mono l2).append r2)
    · exact h1.elim
/-- C(e, .., *y), C a class of the module -/
theorem pe_makeS {CX : CXT} {k : Nat} {f cl : Addr} {fd : FuncData} {ps : List Str} {sp : Sp} {x : Str} {t : TA} {E : XK} (M : Mk X.K cl f) (F : FnOk X.prog X.w X.K X.mg X.base CX k f fd ps sp) (hr : Room (k + 1) X.A) (hg : Gl X x) (hm : X.mg x = some (.ref cl)) (hb : Binds X.K fd ps []) (hx : Passes CX X E) (ha : PA X (e :: es) t) (hd : (x == ("__debug__" : Str)) = false := by decide)
    (he : starEach (e :: es) X.env = (false, eval e X.env) :: starEach es X.env := by rfl) (hst : (backTo pos (starEach es X.env)).any (·.1) = true := by rfl) : PE X (.Call (.Name x p) (e :: es) [] pos) (tMake cl sp [] E t) := ⟨fun pn s0 σ0 H0 Q I q => by
  refine wpAny_Call_Name_kw (ld_glob I hg hm ?_ hd); exact PySem.W.callWith_S2 (h₀ := X.base) I.ok.mod.kin M.kp (thn (ha.run pos pn s0 σ0 H0 _ I q) fun us s1 ⟨vs, H1, I1, r, q1⟩ => ⟨I1.kIn, run_make M F hr hb .nil hx I1 r q1⟩) he hst⟩
theorem xmakeS {CX : CXT} {k n c : Nat} {fI : Addr} {fd : FuncData} {ps : List Str} {fn : List D → Sto → Res D} {x : Str} (Mk' : Mk X.K (C.ga c) fI) (F : FnOk X.prog X.w X.K X.mg X.base CX k fI fd ps (spD C n fn)) (hr : Room (k + 1) X.A) (hg : Gl X x) (hm : X.mg x = some (.ref (C.ga c))) (hb : Binds X.K fd ps []) (hx : Passes CX X W)
    (ha : PA X (e :: es) (tA C W fr)) (hd : (x == ("__debug__" : Str)) = false := by decide) (he : starEach (e :: es) X.env = (false, eval e X.env) :: starEach es X.env := by rfl) (hst : (backTo pos (starEach es X.env)).any (·.1) = true := by rfl) : PE X (.Call (.Name x p) (e :: es) [] pos) (tE C W (dMake c n fn fr)) :=
  (pe_makeS Mk' F hr hg hm hb hx ha hd he hst).by fun σ H Q ⟨M, Γ, S, g, s, h⟩ => runA g s h fun M1 ds S1 vs H1 l1 s1 r1 h1 => fun y dx hy hd ne => make_rd s1 r1 hy hd ne h1
end

/-! ### a local name that holds one of several defs -/
/-- the defs that may be called so: number, arity, denotation -/
abbrev Tab := List (Nat × Nat × (List D → Sto → Res D))
def lookTab : Tab → Nat → Option (Nat × (List D → Sto → Res D))
  | [], _ => none
  | (g, n, f) :: r, j => (match Nat.beq g j with
    | true => some (n, f)
    | false => lookTab r j)
def dCallT (tb : Tab) (i : Nat) (fr : DA) : DE := fun Γ S => match Γ[i]? with
  | some (some (.glo g)) => (match lookTab tb g with
    | some (n, f) => (fr Γ S).bind fun ds S1 => guard (lenIs n ds) (f ds S1)
    | none => .bad)
  | _ => .bad
/-- each of them keeps its promise -/
def TabOk (P : Program) (w : World) (K : PySem.W.Frag) (mg : Str → Option Value) (base : Heap) (C : Cfg) (k : Nat) (tb : Tab) : Prop := ∀ g n f, lookTab tb g = some (n, f) → Held P w K mg base k (C.ga g) (spD C n f)
section
variable {P : Program} {w : World} {K : PySem.W.Frag} {mg : Str → Option Value} {base : Heap} {C : Cfg} {k : Nat}
theorem tabnil : TabOk P w K mg base C k [] := fun _ _ _ h => by cases h
theorem tabcons {g n : Nat} {f : List D → Sto → Res D} {tb : Tab} (h : Held P w K mg base k (C.ga g) (spD C n f)) (r : TabOk P w K mg base C k tb) : TabOk P w K mg base C k ((g, n, f) :: tb) := fun j m f' e => by
  unfold lookTab at e
  split at e
  · rename_i q
    cases e
    have := Nat.eq_of_beq_eq_true q
    subst this
    exact h
  · exact r j m f' e
end
section
variable {X : Cx} {C : Cfg} {W : XK} {fr : DA} {e : Expr} {es : List Expr} {p pos : Pos}
theorem xcallT {k i : Nat} {x : Str} {tb : Tab} (T : TabOk X.prog X.w X.K X.mg X.base C k tb) (hr : Room k X.A) (hN : X.N[i]? = some x) (hv : Vis X.env.scope x) (ha : PA X (e :: es) (tA C W fr)) (hdb : (x == ("__debug__" : Str)) = false := by decide) (hcd : (x == ("__classdict__" : Str)) = false := by decide)
    (he : starEach (e :: es) X.env = (false, eval e X.env) :: starEach es X.env := by rfl) (hpl : (backTo pos (starEach es X.env)).any (·.1) = false := by rfl) : PE X (.Call (.Name x p) (e :: es) [] pos) (tE C W (dCallT tb i fr)) := ⟨fun pn s0 σ0 H0 Q I q => by
  obtain ⟨M, Γ, S, g, s, h⟩ := q
  unfold dCallT at h
  split at h
  · rename_i j ej
    split at h
    · rename_i n f ef
      obtain ⟨v, hv0, rv⟩ := g.2 i _ ej
      cases rv
      obtain ⟨fd, ps, F, hk, hb⟩ := (T j n f ef).ex
      refine (pe_callL (i := i) (f := C.ga j) (sp := spD C n f) (dvs := []) (E := W) F hr hN hv hk hb .nil (fun _ _ _ _ _ _ _ z => z.elim) ha hdb hcd he hpl).run pn s0 σ0 H0 Q I ⟨hv0, ?_⟩
      refine runA g s h fun M1 ds S1 vs H1 l1 s1 r1 h1 => ?_
      obtain ⟨g1, h1⟩ := guard_ok h1
      rw [List.append_nil]
      exact ⟨M1, S1, ds, lenIs_ok g1, s1, r1, h1⟩
    · exact h.elim
  · exact h.elim⟩
end
end Pd

namespace Pd
open L2 PySem PySem.Spec PyProof.Rows

/-! ### a def as a whole -/
/-- the slots at the start: the parameters, the others empty -/
def startG : Nat → List D → Ga
  | 0, ds => ds.map some
  | n + 1, [] => none :: startG n []
  | n + 1, d :: r => some d :: startG n r
def endD (r : SRes) : Res D := match r with
  | .nx _ S => .ok .non S
  | .rt d S => .ok d S
  | .exc c fs S => .exc c fs S
  | _ => .bad
/-- what a def gives: n slots, its body -/
def dFun (n : Nat) (body : DS) : List D → Sto → Res D := fun ds S => endD (body (startG n ds) S)
/-- a def that keeps its promise, and may be called plainly -/
def OkF (P : Program) (w : World) (K : PySem.W.Frag) (mg : Str → Option Value) (base : Heap) (C : Cfg) (k : Nat) (a : Addr) (n : Nat) (f : List D → Sto → Res D) : Prop :=
  ∃ (fd : FuncData) (ps : List Str), FnOk P w K mg base CX0 k a fd ps (spD C n f) ∧ PySem.W.keepIn K (.ref a) = true ∧ Binds K fd ps []
section
variable {C : Cfg} {M : Wd}
theorem startG_rep : ∀ {n : Nat} {ds : List D} {vs : List V}, ds.length ≤ n → RepL C M ds vs → SimG C M (startG n ds) (vs.map some ++ List.replicate (n - vs.length) none)
  | 0, ds, vs, h, r => by
    cases ds with
    | nil => rw [r.nil_inv]; exact ⟨rfl, fun i d e => by simp [startG] at e⟩
    | cons d r => simp at h
  | n + 1, [], vs, h, r => by
    have ih := startG_rep (n := n) (ds := []) (vs := []) (Nat.zero_le _) (RepL.nil (C := C) (M := M))
    rw [r.nil_inv]
    refine ⟨?_, fun i d e => ?_⟩
    · show (startG n []).length + 1 = _
      rw [ih.1]
      simp
    · cases i with
      | zero => cases e
      | succ i =>
        obtain ⟨v, hv, rv⟩ := ih.2 i d e
        refine ⟨v, ?_, rv⟩
        simp only [List.map_nil, List.nil_append, List.length_nil, Nat.sub_zero] at hv ⊢
        rw [List.replicate_succ, List.getElem?_cons_succ]
        exact hv
  | n + 1, d :: ds, vs, h, r => by
    obtain ⟨v, us, rfl, h1, h2⟩ := r.cons_inv
    have ih := startG_rep (n := n) (by simpa using h) h2
    refine ⟨?_, fun i e q => ?_⟩
    · show (startG n ds).length + 1 = _
      rw [ih.1]
      simp
    · cases i with
      | zero =>
        have q : some (some d) = some (some e) := q
        cases q
        exact ⟨v, rfl, h1⟩
      | succ i =>
        obtain ⟨u, hu, ru⟩ := ih.2 i e q
        refine ⟨u, ?_, ru⟩
        simp only [List.map_cons, List.cons_append, List.length_cons, List.getElem?_cons_succ, Nat.add_sub_add_right]
        exact hu
end
section
variable {P : Program} {w : World} {K : PySem.W.Frag} {mg : Str → Option Value} {base : Heap} {C : Cfg} {x qual : Str} {params : Arguments} {body : List Stmt} {scope : Scope} {f : Addr} {fd : FuncData}
theorem len_ok {n m : Nat} (h : Nat.ble n m = true) : n ≤ m := Nat.le_of_ble_eq_true h
theorem okf {N ps : List Str} {k : Nat} {fb : DS} (F : FunD K x qual params body scope [] [] f fd) (S : FnScope N ps scope) (hle : Nat.ble ps.length N.length = true) (hb : Binds K fd ps [])
    (hbody : ∀ (cdv : Value) (A : Around) (outer : List Env) (s : Shared) (H : Hp) (E : XK), Room k (A.deeper (envOfC qual scope s.heap.objs.size f cdv)) → PSs (cxOf CX0 P w K mg base N qual scope f cdv A outer s H E) body (tS C E fb)) :
    OkF P w K mg base C (k + 1) f ps.length (dFun N.length fb) := by
  refine ⟨fd, ps, F.ok S (fun vs H Q E h => ?_) (fun cdv A outer s H vs Q E hr h => ⟨tS C E fb, hbody cdv A outer s H E hr, ?_⟩), F.kp, hb⟩
  · obtain ⟨M, S0, ds, hl, _, r, _⟩ := h
    rw [← r.1, hl]
  · obtain ⟨M, S0, ds, hl, sm, r, g⟩ := h
    refine ⟨M, startG N.length ds, S0, startG_rep (by rw [hl]; exact len_ok hle) r, sm, ?_⟩
    have g : GoodE C M (endD (fb (startG N.length ds) S0)) Q E := g
    cases e : fb (startG N.length ds) S0 with
    | nx Γ S' => rw [e] at g; exact fun M' σ' H' l _ s => g M' .non H' l s .non
    | rt d S' => rw [e] at g; exact g
    | bk Γ S' => rw [e] at g; exact g.elim
    | ct Γ S' => rw [e] at g; exact g.elim
    | exc c fs S' => rw [e] at g; exact fun M' σ' c' d H' l s r => g M' c' d H' l s r
    | bad => rw [e] at g; exact g.elim
end
section
variable {X : Cx} {C : Cfg} {W : XK} {k n : Nat} {f : Addr} {fn : List D → Sto → Res D} {x m : Str} {p pos apos : Pos} {e o : Expr} {es : List Expr} {fr : DA} {fo : DE}
theorem zcall (F : OkF X.prog X.w X.K X.mg X.base C k f n fn) (hr : Room k X.A) (hg : Gl X x) (hm : X.mg x = some (.ref f)) (ha : PA X (e :: es) (tA C W fr)) (hdb : (x == ("__debug__" : Str)) = false := by decide) (he : starEach (e :: es) X.env = (false, eval e X.env) :: starEach es X.env := by rfl)
    (hpl : (backTo pos (starEach es X.env)).any (·.1) = false := by rfl) : PE X (.Call (.Name x p) (e :: es) [] pos) (tE C W (dCall n fn fr)) := by
  obtain ⟨fd, ps, F, hk, hb⟩ := F
  exact xcall F hr hg hm hk hb pass0 ha hdb he hpl
theorem zcall0 (F : OkF X.prog X.w X.K X.mg X.base C k f 0 fn) (hr : Room k X.A) (hg : Gl X x) (hm : X.mg x = some (.ref f)) (hdb : (x == ("__debug__" : Str)) = false := by decide) : PE X (.Call (.Name x p) [] [] pos) (tE C W (dCall 0 fn aNil)) := by
  obtain ⟨fd, ps, F, hk, hb⟩ := F
  exact xcall0 F hr hg hm hk hb pass0 hdb
theorem zmeth {c : Nat} {pl : Sem Bool} (hn : m ∉ C.an) (ho : PE X o (tE C W fo)) (cl : Cls X.K (C.ga c)) (hm : Meth X.K (C.ga c) m f) (F : OkF X.prog X.w X.K X.mg X.base C k f n fn) (hr : Room k X.A) (ha : PA X (e :: es) (tA C W fr)) (hst : starEach (e :: es) X.env = (false, eval e X.env) :: starEach es X.env := by rfl)
    (hpl : (backTo pos (starEach es X.env)).any (·.1) = false := by rfl)
    (ht : eval (.Call (.Attribute o m apos) (e :: es) [] pos) X.env = (do let ov ← eval o X.env; standAt apos.atName; let (f, first) ← holding [ov] (getMethod ov m pl); callWith pos f first (backTo pos (starEach (e :: es) X.env)) (backToKw pos (keywordEach [] X.env))) := by rfl) :
    PE X (.Call (.Attribute o m apos) (e :: es) [] pos) (tE C W (dMeth c n fn fo fr)) := by
  obtain ⟨fd, ps, F, hk, hb⟩ := F
  exact xmeth hn ho cl hm F hr hb pass0 ha hst hpl ht
theorem zmeth0 {c : Nat} {pl : Sem Bool} (hn : m ∉ C.an) (ho : PE X o (tE C W fo)) (cl : Cls X.K (C.ga c)) (hm : Meth X.K (C.ga c) m f) (F : OkF X.prog X.w X.K X.mg X.base C k f n fn) (hr : Room k X.A)
    (ht : eval (.Call (.Attribute o m apos) [] [] pos) X.env = (do let ov ← eval o X.env; standAt apos.atName; let (f, first) ← holding [ov] (getMethod ov m pl); callWith pos f first (backTo pos (starEach [] X.env)) (backToKw pos (keywordEach [] X.env))) := by rfl) :
    PE X (.Call (.Attribute o m apos) [] [] pos) (tE C W (dMeth c n fn fo aNil)) := by
  obtain ⟨fd, ps, F, hk, hb⟩ := F
  exact xmeth0 hn ho cl hm F hr hb pass0 ht
theorem zmake {c : Nat} (Mk' : Mk X.K (C.ga c) f) (F : OkF X.prog X.w X.K X.mg X.base C k f n fn) (hr : Room (k + 1) X.A) (hg : Gl X x) (hm : X.mg x = some (.ref (C.ga c))) (ha : PA X (e :: es) (tA C W fr)) (hdb : (x == ("__debug__" : Str)) = false := by decide) (he : starEach (e :: es) X.env = (false, eval e X.env) :: starEach es X.env := by rfl)
    (hpl : (backTo pos (starEach es X.env)).any (·.1) = false := by rfl) : PE X (.Call (.Name x p) (e :: es) [] pos) (tE C W (dMake c n fn fr)) := by
  obtain ⟨fd, ps, F, hk, hb⟩ := F
  exact xmake Mk' F hr hg hm hb pass0 ha hdb he hpl
theorem zmake0 {c : Nat} (Mk' : Mk X.K (C.ga c) f) (F : OkF X.prog X.w X.K X.mg X.base C k f n fn) (hr : Room (k + 1) X.A) (hg : Gl X x) (hm : X.mg x = some (.ref (C.ga c))) (hdb : (x == ("__debug__" : Str)) = false := by decide) : PE X (.Call (.Name x p) [] [] pos) (tE C W (dMake c n fn aNil)) := by
  obtain ⟨fd, ps, F, hk, hb⟩ := F
  exact xmake0 Mk' F hr hg hm hb pass0 hdb
theorem zmakeS {c : Nat} (Mk' : Mk X.K (C.ga c) f) (F : OkF X.prog X.w X.K X.mg X.base C k f n fn) (hr : Room (k + 1) X.A) (hg : Gl X x) (hm : X.mg x = some (.ref (C.ga c))) (ha : PA X (e :: es) (tA C W fr)) (hd : (x == ("__debug__" : Str)) = false := by decide) (he : starEach (e :: es) X.env = (false, eval e X.env) :: starEach es X.env := by rfl)
    (hst : (backTo pos (starEach es X.env)).any (·.1) = true := by rfl) : PE X (.Call (.Name x p) (e :: es) [] pos) (tE C W (dMake c n fn fr)) := by
  obtain ⟨fd, ps, F, hk, hb⟩ := F
  exact xmakeS Mk' F hr hg hm hb pass0 ha hd he hst
end
theorem OkF.held {P : Program} {w : World} {K : PySem.W.Frag} {mg : Str → Option Value} {base : Heap} {C : Cfg} {j k n : Nat} {a : Addr} {f : List D → Sto → Res D} (F : OkF P w K mg base C j a n f) (h : j ≤ k) : Held P w K mg base k a (spD C n f) := by
  obtain ⟨fd, ps, F, hk, hb⟩ := F
  exact ⟨fd, ps, F.mono h, hk, hb⟩
theorem _root_.L2.Room.units1 {k : Nat} {A : Around} (r : Room k A) : A.units + 1 < cLine := by have := r.units; omega
end Pd

namespace Pd
open PySem PySem.Spec L2

/-! ### whatever is walked by its value -/
section
variable {X : Cx} {tg e : Expr} {td : TE}
theorem _root_.L2.PI.or {wi wj : TI} (h : PI X tg e wi) (h' : PI X tg e wj) : PI X tg e (fun σ H R => wi σ H R ∨ wj σ H R) := ⟨fun pn s0 σ0 H0 R I q => q.elim (h.run pn s0 σ0 H0 R I) (h'.run pn s0 σ0 H0 R I)⟩
/-- a list of the store, locked for as long -/
def iListL (X : Cx) (td : TE) : TI := fun σ H R => td σ H fun x H1 => ∃ d vs, x = .ref d ∧ ((∃ od, H1 d = some (.frz od (.lst vs)) ∧ R (Itl X.K d) H1) ∨ H1 d = some (.lst vs) ∧ ∀ od, NoFrz X d → R (Itl X.K d) (upd H1 d (.frz od (.lst vs))))
theorem list_it {pn : List (Addr × Obj)} {σ : St} {H : Hp} {s : Shared} {d : Addr} {vs : List V} {R : It → Hp → Prop} {E : Value → Shared → Prop} (I : Inv X pn σ H s) (h : SqL X.K H d vs) (q : R (Itl X.K d) H) : wpAny (model X.prog X.w) X.A (pyIter (.ref d)) (PIE X pn σ tg R) E s := by
  obtain ⟨its, _, p, _⟩ := I.list h
  exact wpAny_pyIter_list p.isList (pi_one (tk := s.toks) I _ (turn_list d _) ⟨_, Heap.get?_push_size _ rfl, rfl, rfl⟩ q)
theorem pi_listL (he : PE X e td) : PI X tg e (iListL X td) := ⟨fun pn s0 σ0 H0 R I h => by
  refine thn (he.run pn s0 σ0 H0 _ I h) fun u s1 ⟨x, H1, I1, rx, d, vs, ex, q⟩ => ?_
  subst ex
  cases rx
  rcases q with ⟨od, hd, q⟩ | ⟨hd, q⟩
  · exact list_it I1 (.inl (.inr ⟨od, hd⟩)) q
  · obtain ⟨od, I2⟩ := I1.lock hd True.intro
    exact list_it I2 (.inl (.inr ⟨od, upd_same⟩)) (q od (I1.nofrz hd True.intro))⟩
end
def lockL (d : D) (S : Sto) : Res (List D × UK) := match d with
  | .ref n => (match S.at n with
    | some (.lst ds) => .ok (ds, .st n) (S.set n (.lck (.lst ds)))
    | some (.lck (.lst ds)) => .ok (ds, .no) S
    | _ => lockD d S)
  | _ => lockD d S
def fAny (d : D) (S : Sto) : Res (List D × UK) := match iFrz d with
  | some ds => .ok (ds, .no) S
  | none => (match tupV d with
    | some ds => .ok (ds, .no) S
    | none => (match d with
      | .str x => .ok (signs x.cps.toList, .no) S
      | d => lockL d S))
def iAny (fa : DE) : DI := fun Γ S => (fa Γ S).bind fAny
section
variable {X : Cx} {C : Cfg} {W : XK} {tg e : Expr} {fa : DE}
theorem gives_L {M : Wd} {d : Addr} {od : Obj} {ds : List D} {vs : List V} (h : M.lk d = some (od, .lst vs)) (r : RepL C M ds vs) : Gives C M (Itl C.K d) ds := by
  intro M' S H l s i
  have hd : SqL C.K H d vs := .inl (.inr ⟨od, s.lk _ _ _ (l.2.2.1 _ _ h)⟩)
  have rl := r.mono l
  refine ⟨fun hi => ⟨vs, hd, by rw [← rl.1]; exact hi⟩, fun x hx => ?_⟩
  obtain ⟨v, hv, rv⟩ := rl.get hx
  refine ⟨⟨vs, v, hd, hv⟩, fun y H' q => ?_⟩
  obtain ⟨rfl, q⟩ := q
  have same := q vs hd
  rw [hv] at same; cases same
  exact ⟨M', .refl M', s, rv⟩
theorem wlstS (hK : X.K = C.K) (he : PE X e (tE C W fa)) : ItU X C W tg e (fun Γ S => (fa Γ S).bind fun d S1 => match d with
    | .ref n => (match S1.at n with
      | some (.lst ds) => .ok (ds, .st n) (S1.set n (.lck (.lst ds)))
      | some (.lck (.lst ds)) => .ok (ds, .no) S1
      | _ => .bad)
    | _ => .bad) := by
  refine ⟨_, pi_listL he, fun M Γ S σ H R g s q => run1U g s q fun M1 d S1 x H1 l1 s1 r1 h1 => ?_⟩
  rw [hK]
  cases r1 with
  | ref hm =>
    rename_i n a
    dsimp only at h1
    split at h1
    · rename_i ds' k' S' e'
      split at e'
      · rename_i ds em
        cases e'
        obtain ⟨b, o, h2, h3, h4, vs, rfl, rr⟩ := s1.al n _ em
        rw [hm] at h2; cases h2
        have n0 := s1.nolk (a := a) (fun ob u w => by rw [h3] at w; cases w)
        refine ⟨a, vs, rfl, .inr ⟨h3, fun od nf => ?_⟩⟩
        have s2 := (s1.write (m' := .lck (.lst _)) (o := .frz od (.lst vs)) em hm ⟨od, _, rfl, vs, rfl, rr⟩).addlk (od := od) (u := .lst vs) upd_same
        exact h1 _ _ _ (Wd.lck_le n0) s2 (gives_L Wd.lck_at (rr.mono (Wd.lck_le n0))) (end_st (Wd.lck_le n0) n0 Wd.lck_at hm nf)
      · rename_i ds em
        cases e'
        obtain ⟨b, o, h2, h3, h4, ob, u, rfl, vs, rfl, rr⟩ := s1.al n _ em
        rw [hm] at h2; cases h2
        refine ⟨a, vs, rfl, .inl ⟨ob, h3, ?_⟩⟩
        have s2 := s1.addlk h3
        cases e0 : M1.lk a with
        | none => exact h1 _ _ _ (Wd.lck_le e0) s2 (gives_L Wd.lck_at (rr.mono (Wd.lck_le e0))) (end_no (Wd.lck_le e0))
        | some p =>
          obtain ⟨od, u⟩ := p
          have w := s1.lk _ _ _ e0
          rw [h3] at w; cases w
          exact h1 _ _ _ (.refl _) s1 (gives_L e0 rr) (end_no (.refl _))
      · cases e'
    · rename_i c fs S' e'
      split at e' <;> cases e'
    · exact h1.elim
  | _ => exact h1.elim
/-- what a walk is asked for, by its result -/
def ItG (X : Cx) (C : Cfg) (W : XK) (M : Wd) (R : It → Hp → Prop) (r : Res (List D × UK)) : Prop := match r with
  | .ok (ds, k) S1 => ∀ M1 H1 J, M.le M1 → Sim C M1 S1 H1 → Gives C M1 J ds → EndOk X C M M1 k → R J H1
  | .exc c fs S1 => ∀ M' cls dd H', M.le M' → Sim C M' S1 H' → RepX C M' H' cls dd c fs → W cls dd H'
  | .bad => False
theorem ItG.eq {M : Wd} {R : It → Hp → Prop} {r r' : Res (List D × UK)} (h : ItG X C W M R r) (e : r' = r) : ItG X C W M R r' := by rw [e]; exact h
theorem fAny_lst {d : D} {S : Sto} {ds : List D} (h : iFrz d = some ds) : fAny d S = .ok (ds, .no) S := by unfold fAny; rw [h]
theorem fAny_tup {d : D} {S : Sto} {ds : List D} (h0 : iFrz d = none) (h : tupV d = some ds) : fAny d S = .ok (ds, .no) S := by unfold fAny; rw [h0, h]
def stL (S : Sto) (d : D) : Res (List D × UK) := match d with
  | .ref n => (match S.at n with
    | some (.lst ds) => .ok (ds, .st n) (S.set n (.lck (.lst ds)))
    | some (.lck (.lst ds)) => .ok (ds, .no) S
    | _ => .bad)
  | _ => .bad
theorem fAny_else (d : D) (S : Sto) (h0 : iFrz d = none) (h : tupV d = none) : (∃ x, d = .str x ∧ fAny d S = .ok (signs x.cps.toList, .no) S) ∨ (∃ p S', stL S d = .ok p S' ∧ fAny d S = .ok p S') ∨ fAny d S = lockD d S := by
  unfold fAny
  rw [h0, h]
  cases d with
  | str x => exact .inl ⟨x, rfl, rfl⟩
  | ref n =>
    unfold lockL stL
    dsimp only
    cases e : S.at n with
    | none => exact .inr (.inr rfl)
    | some m =>
      cases m with
      | lst ds => exact .inr (.inl ⟨_, _, rfl, rfl⟩)
      | lck m =>
        cases m with
        | lst ds => exact .inr (.inl ⟨_, _, rfl, rfl⟩)
        | _ => exact .inr (.inr rfl)
      | _ => exact .inr (.inr rfl)
  | _ => exact .inr (.inr rfl)
theorem wany (hK : X.K = C.K) (he : PE X e (tE C W fa)) : ItU X C W tg e (iAny fa) := by
  obtain ⟨w1, p1, k1⟩ := ItD.u (wlst (tg := tg) hK he)
  obtain ⟨w2, p2, k2⟩ := ItD.u (wtup (tg := tg) hK he)
  obtain ⟨w3, p3, k3⟩ := ItD.u (wstr (tg := tg) he)
  obtain ⟨w4, p4, k4⟩ := wlstS (tg := tg) hK he
  obtain ⟨w5, p5, k5⟩ := wdct (tg := tg) he
  refine ⟨_, p1.or (p2.or (p3.or (p4.or p5))), fun M Γ S σ H R g s q => ?_⟩
  have q : ItG X C W M R (iAny fa Γ S) := q
  unfold iAny at q
  cases e0 : fa Γ S with
  | bad => rw [e0] at q; exact q.elim
  | exc c fs S1 =>
    rw [e0] at q
    exact .inl (k1 M Γ S σ H R g s (q.eq (by unfold iNo aLst; rw [e0]; rfl)))
  | ok d S1 =>
    rw [e0] at q
    have q : ItG X C W M R (fAny d S1) := q
    cases ei : iFrz d with
    | some ds =>
      rw [fAny_lst ei] at q
      exact .inl (k1 M Γ S σ H R g s (q.eq (by unfold iNo aLst; rw [e0]; unfold Res.bind; dsimp only; rw [ei])))
    | none =>
      cases et : tupV d with
      | some ds =>
        rw [fAny_tup ei et] at q
        exact .inr (.inl (k2 M Γ S σ H R g s (q.eq (by unfold iNo aTup; rw [e0]; unfold Res.bind; dsimp only; rw [et]))))
      | none =>
        rcases fAny_else d S1 ei et with ⟨x, rfl, e3⟩ | ⟨p, S2, e4, e3⟩ | e3
        · rw [e3] at q
          exact .inr (.inr (.inl (k3 M Γ S σ H R g s (q.eq (by unfold iNo aStr; rw [e0]; rfl)))))
        · rw [e3] at q
          exact .inr (.inr (.inr (.inl (k4 M Γ S σ H R g s (q.eq (by dsimp only; rw [e0]; exact e4))))))
        · rw [e3] at q
          exact .inr (.inr (.inr (.inr (k5 M Γ S σ H R g s (q.eq (by unfold iDct; rw [e0]; rfl))))))
end
/-! ### a comprehension's own names -/
def nmB (a b : Option NameKind) : Bool := decide (a = b)
def inB (x : Str) : List Str → Bool
  | [] => false
  | y :: r => (match decide (x = y) with
    | true => true
    | false => inB x r)
theorem inB_iff (x : Str) : ∀ l : List Str, inB x l = true ↔ x ∈ l
  | [] => ⟨fun h => (by cases h), fun h => (by cases h)⟩
  | y :: r => by
    unfold inB
    by_cases e : x = y
    · rw [decide_eq_true e]; exact ⟨fun _ => by rw [e]; exact List.mem_cons_self .., fun _ => rfl⟩
    · rw [decide_eq_false e]
      show inB x r = true ↔ _
      rw [inB_iff x r]
      exact ⟨fun h => List.mem_cons_of_mem _ h, fun h => (List.mem_cons.mp h).elim (fun z => absurd z e) id⟩
def blkB (N : List Str) (sc scope : Scope) (own : List (Str × Nat)) : Bool :=
  decide (scope.kind = .function) && (scope.names.all (fun y => nmB (scope.names.lookup y.1) (some y.2)) && (own.all (fun p => decide (N[p.2]? = some p.1)) &&
    (scope.names.all (fun y => match decide (y.2 = .free) with
      | true => nmB (sc.names.lookup y.1) (some .cell) || nmB (sc.names.lookup y.1) (some .free)
      | false => true) &&
    scope.names.all (fun y => match decide (y.2 = .local) || decide (y.2 = .cell) with
      | true => inB y.1 (own.map (·.1)) || !inB y.1 N
      | false => true))))
theorem blk_of {N : List Str} {sc scope : Scope} {own : List (Str × Nat)} (h : blkB N sc scope own = true) : BlkOk N sc scope own := by
  unfold blkB at h
  (simp only [Bool.and_eq_true] at h)
  obtain ⟨h1, h2, h3, h4, h5⟩ := h
  refine ⟨of_decide_eq_true h1, fun y hy => ?_, fun p hp => of_decide_eq_true (List.all_eq_true.mp h3 p hp), fun y hy e => ?_, fun y hy e => ?_⟩
  · exact of_decide_eq_true (List.all_eq_true.mp h2 y hy)
  · have q := List.all_eq_true.mp h4 y hy
    rw [decide_eq_true e] at q
    rcases Bool.or_eq_true_iff.mp q with z | z
    · exact .inl (of_decide_eq_true z)
    · exact .inr (of_decide_eq_true z)
  · have q := List.all_eq_true.mp h5 y hy
    have t : (decide (y.2 = .local) || decide (y.2 = .cell)) = true := by
      rcases e with e | e
      · rw [decide_eq_true e]; rfl
      · rw [decide_eq_true e, Bool.or_true]
    rw [t] at q
    rcases Bool.or_eq_true_iff.mp q with z | z
    · exact .inl ((inB_iff _ _).mp z)
    · refine .inr fun w => ?_
      rw [(inB_iff _ _).mpr w] at z
      cases z
section
variable {X : Cx} {C : Cfg} {W : XK} {x : Str} {pos : Pos}
theorem xgint {i : Int} (hg : Gl X x) (hm : ∃ t, X.mg x = some (.int i t)) (hd : (x == ("__debug__" : Str)) = false := by decide) : PE X (.Name x pos) (tE C W (dC (.int i))) := by
  obtain ⟨t, hm⟩ := hm
  exact cst (pe_glob (v := .int i) hg hm ⟨t, rfl⟩ hd) fun _ => .int i
theorem xgstr {z : Str} (hg : Gl X x) (hm : ∃ t, X.mg x = some (.str z t)) (hd : (x == ("__debug__" : Str)) = false := by decide) : PE X (.Name x pos) (tE C W (dC (.str z))) := by
  obtain ⟨t, hm⟩ := hm
  exact cst (pe_glob (v := .str z) hg hm ⟨t, rfl⟩ hd) fun _ => .str z
theorem xglr {a : Addr} {d : D} (hg : Gl X x) (hm : X.mg x = some (.ref a)) (r : KRep C d (.ref a)) (hd : (x == ("__debug__" : Str)) = false := by decide) : PE X (.Name x pos) (tE C W (dC d)) := xglo (v := .ref a) hg hm rfl r hd
end
end Pd

/-! a list made of what an iterator of its own hands out: reversed(tuple) -/
namespace Pd
open PySem PySem.Spec PyProof.Rows L2 RT

theorem rt_nolen : typeLookup (.type "reversed") "__len__" = pure none := by rw [typeLookup_type, builtinLookup_eq_fast]; kernel_rfl
theorem slot_rt_hint : Slot "reversed" "__length_hint__" "reversed.__length_hint__" :=
  .of (owner := "reversed") (n := "__length_hint__") (by rw [typeLookup_type, builtinLookup_eq_fast]; kernel_rfl) (by decide +kernel) (by decide +kernel) (by decide +kernel) (by first | exact .inl (by decide +kernel) | exact .inr (by decide +kernel)) (by rw [isSubtype_type]; kernel_rfl)
theorem entry_rt_hint : entryFor table "reversed.__length_hint__" = some Builtin.«reversed.__length_hint__» := entryFor_of_tree (by kernel_rfl)
theorem args_rt_hint (a : Value) : argsOk "reversed.__length_hint__" ⟨[a], []⟩ := by
  unfold argsOk; rw [signature?_of (id := "reversed.__length_hint__") (n := ['_', '_', 't', 'n', 'i', 'h', '_', 'h', 't', 'g', 'n', 'e', 'l', '_', '_']) (o := ['d', 'e', 's', 'r', 'e', 'v', 'e', 'r']) (by kernel_rfl) owner_rt]; kernel_rfl

section
variable {prog : Program} {w : World} {s : Shared} {A : Around} {E : Value → Shared → Prop}
theorem hint_rt {it t : Addr} {items : Array Value} {Q : Bool → Shared → Prop} (hit : IsRt s.heap it t ((items.size : Int) - 1)) (hn : items.size ≤ sizeLine) (hlen : ∀ (A : Around) (E : Value → Shared → Prop) (Q : Value → Shared → Prop), Q (.int items.size (s.toks + 1)) { s with toks := s.toks + 1 + 1 } → wpAny (model prog w) A (call (.builtin "len") [.ref t]) Q E s)
    (h : ∀ b tk, s.toks ≤ tk → Q b { s with toks := tk }) : wpAny (model prog w) A (Builtin.List.listLengthHint (.ref it)) Q E s := by
  obtain ⟨o, ho, hc, hd⟩ := id hit; have hT := hit.typeIs
  rw [sizeLine_eq] at hn
  (unfold Builtin.List.listLengthHint)
  refine wpAny_bind (wpAny_specialOf hT rt_nolen ?_)
  show wpAny _ _ (specialOf (Value.ref it) (Str.ofString "__length_hint__") >>= _) _ _ _
  refine wpAny_bind (wpAny_specialOf hT slot_rt_hint.lookup ?_)
  generalize hid : ("reversed.__length_hint__" : String) = id0
  wp_delta
  rw [show splitId id0 = some ("reversed", "__length_hint__") from by subst hid; decide +kernel]
  subst hid
  refine wpAny_bind (wpAny_isInstance (b := true) hT (by rw [isSubtype_type]; kernel_rfl) ?_); refine wpAny_ite_split (fun hab => absurd hab (by decide)) (fun _ => ?_)
  refine wpAny_ite_split (fun hab => absurd hab (by decide +kernel)) (fun _ => ?_); refine wpAny_bind (wpAny_rule ?_)
  refine wpAny_bind (wpAny_of_eq (slot_rt_hint.bind _) ?_)
  refine wpAny_bind (wpAny_attempt (wpAny_call_entry slot_rt_hint hT entry_rt_hint ?_ (args_rt_hint _)))
  unfold Builtin.«reversed.__length_hint__»
  refine wpAny_bind (wpAny_of_eq (a := Value.ref it) rfl ?_)
  refine wpAny_bind (wpAny_field ho hd (x := .ref t) rfl ?_); refine wpAny_ite_split (fun hab => absurd hab Bool.false_ne_true) (fun _ => ?_)
  refine wpAny_bind (hlen _ _ _ ?_); refine wpAny_bind (wpAny_of_eq (a := some ((items.size : Nat) : Int)) rfl ?_)
  refine wpAny_bind (wpAny_field (s := { s with toks := s.toks + 1 + 1 }) ho hd (x := rawInt ((items.size : Int) - 1)) rfl ?_)
  refine wpAny_ite_split (fun hab => absurd hab (by omega)) (fun _ => ?_)
  show wpAny _ _ (mkInt ((items.size : Int) - 1 + 1) >>= fun v => ret v) _ _ _
  refine wpAny_bind (wpAny_mkInt ?_); refine wpAny_pure ⟨_, rfl, ?_⟩
  show wpAny _ _ (asInt? (.int ((items.size : Int) - 1 + 1) _) >>= _) _ _ _
  refine wpAny_bind (wpAny_of_eq (a := some ((items.size : Int) - 1 + 1)) rfl ?_)
  refine (wpAny_ite_split (fun hab => ?_) (fun _ => ?_))
  · exfalso
    unfold Builtin.List.listFitsIndex at hab
    simp at hab
    omega
  refine wpAny_ite_split (fun hab => absurd hab (by omega)) (fun _ => ?_)
  refine (wpAny_ite_split (fun hab => ?_) (fun _ => ?_))
  · exfalso
    unfold Builtin.List.listTooLong at hab
    simp [sizeLine_eq] at hab
    omega
  exact wpAny_pure (h _ _ (by show s.toks ≤ s.toks + 1 + 1 + 1; omega))
/-- the list that an iterator's walk fills -/
theorem own_extend {R : Result → Shared → Prop} {T : String} {I : Addr} {fp : List Addr} {n : Nat} {Pv : Nat → Value → Prop} {St : Nat → Heap → Prop} (W : Walks prog w A.in1 I fp [I] n Pv St) (hn : n ≤ sizeLine)
    (hT : ∀ s1 : Shared, St 0 s1.heap → s1.TypeIs (.ref I) T) (n1 : (Value.type T == Value.type "list") = false) (n2 : (Value.type T == Value.type "tuple") = false)
    (hint : ∀ (s1 : Shared) (E : Value → Shared → Prop) (Q : Bool → Shared → Prop), St 0 s1.heap → (∀ b tk, s1.toks ≤ tk → Q b { s1 with toks := tk }) → wpAny (model prog w) A.in1 (Builtin.List.listLengthHint (.ref I)) Q E s1)
    (hst : St 0 s.heap) (S : Addr) (hSf : S ∉ fp) (hI : I ∈ fp) (res : Value) (c₀ : Nat) (hS : s.heap.get? S = some { cls := .type "list", data := .seq #[] c₀ })
    (hR : ∀ h' tk acc' c', (∀ b o, b ≠ S → b ≠ I → s.heap.get? b = some o → h'.get? b = some o) → h'.get? S = some { cls := .type "list", dict := none, data := .seq acc' c', slots := #[] } → ItemsOf Pv acc' n → R (.ok (.ret res)) { s with heap := h', toks := tk }) :
    wpAny (model prog w) A.in1 (Builtin.List.listExtendWith (.ref S) (.ref I) res) (fun fin s' => match fin with | .done f => R (.ok f) s' | .again c' => c'.quiet = true ∧ codeAny (model prog w) A c' R s') (fun e s' => R (.error e) s') s := by
  have hSI : S ≠ I := fun e => hSf (e ▸ hI); have key : ∀ (h : Heap) (c₁ tk : Nat), St 0 h → (∀ b o, b ≠ S → s.heap.get? b = some o → h.get? b = some o) → h.get? S = some { cls := .type "list", data := .seq #[] c₁ } →
      codeAny (model prog w) A (.builtin "list.extend.loop" ⟨[.ref S, .ref I, res], []⟩) R { s with heap := h, toks := tk } := fun h c₁ tk hs hk hS₁ => by
    refine codeAny_extend_loopS W.toS hn S hSf res n 0 _ #[] c₁ rfl (Nat.zero_le _) hs hS₁ (ItemsOf.nil _) fun s' acc' c' hm hS' hacc => ?_
    rw [Moved.eq_with hm]
    exact hR s'.heap s'.toks acc' c' (fun b o hb hb2 e => hm.heap b o (fun z => (List.mem_cons.mp z).elim hb fun z => hb2 (List.mem_singleton.mp z)) (hk b o hb e)) hS' hacc
  (unfold Builtin.List.listExtendWith)
  refine wpAny_bind (wpAny_typeOf (T := T) (hT s hst) ?_)
  have h1 : Builtin.List.listSameRef (.ref S) (.ref I) = false := (by simp [Builtin.List.listSameRef, hSI])
  simp only [h1, n1, n2, Bool.or_false, Bool.false_eq_true, if_false]
  refine wpAny_bind (W.self 0 _ _ _ hst ?_); refine wpAny_bind (wpAny_holding (hint _ _ _ hst fun bb tk htk => ?_))
  refine wpAny_ite_split (fun _ => ?_) (fun _ => wpAny_pure ⟨plainId_quiet F.plain_extend_loop _, key _ c₀ _ hst (fun b o _ e => e) hS⟩)
  refine wpAny_bind (wpAny_rule (wpAny_bind ?_)); show wpAny _ _ (updateSeq S (·.push .none) >>= fun _ => updateSeq S (·.pop)) _ _ _
  refine wpAny_bind (wpAny_updateSeq (s := { s with toks := tk }) hS rfl ?_)
  have hS₂ := Heap.get?_update_self (Obj.mapSeq (·.push Value.none)) hS rfl; refine wpAny_updateSeq (hz := by seq_fits) hS₂ rfl ?_
  have hS₃ := Heap.get?_update_self (Obj.mapSeq (·.pop)) hS₂ rfl; have oth : ∀ b o, b ≠ S → s.heap.get? b = some o → ((s.heap.update S (Obj.mapSeq (·.push Value.none))).update S (Obj.mapSeq (·.pop))).get? b = some o := fun b o hb e =>
    (Heap.get?_update_other _ _ (Ne.symm hb)).trans ((Heap.get?_update_other _ _ (Ne.symm hb)).trans e)
  exact wpAny_pure ⟨plainId_quiet F.plain_extend_loop _, key _ _ _ (W.frame 0 _ _ hst fun b hb o e => oth b o (fun z => hSf (z ▸ hb)) e) oth hS₃⟩
theorem own_call {T : String} {I : Addr} {fp : List Addr} {n : Nat} {Pv : Nat → Value → Prop} {St : Nat → Heap → Prop} {Q : Value → Shared → Prop} (W : Walks prog w A.in1.in1 I fp [I] n Pv St) (hn : n ≤ sizeLine)
    (hT : ∀ s1 : Shared, St 0 s1.heap → s1.TypeIs (.ref I) T) (n1 : (Value.type T == Value.type "list") = false) (n2 : (Value.type T == Value.type "tuple") = false)
    (hint : ∀ (A : Around) (s1 : Shared) (E : Value → Shared → Prop) (Q : Bool → Shared → Prop), St 0 s1.heap → (∀ b tk, s1.toks ≤ tk → Q b { s1 with toks := tk }) → wpAny (model prog w) A (Builtin.List.listLengthHint (.ref I)) Q E s1)
    (hst : St 0 s.heap) (hfp : ∀ b ∈ fp, b < s.heap.objs.size) (hI : I ∈ fp)
    (hQ : ∀ h' tk acc' c', (∀ b o, b ≠ I → s.heap.get? b = some o → h'.get? b = some o) → h'.get? s.heap.objs.size = some { cls := .type "list", dict := none, data := .seq acc' c', slots := #[] } → ItemsOf Pv acc' n → Q (.ref s.heap.objs.size) { s with heap := h', toks := tk }) : wpAny (model prog w) A (call (.type "list") [.ref I]) Q E s := by
  have hSf : s.heap.objs.size ∉ fp := fun hm => Nat.lt_irrefl _ (hfp _ hm); refine callType_codes (Q₁ := fun obj s₁ => obj = .ref s.heap.objs.size ∧ s₁ = { s with heap := s.heap.push { cls := .type "list", data := .seq #[] } }) F.called_list (F.typeCall_list_1 _) F.entry_list_init (code_list_new _ ⟨rfl, rfl⟩) fun obj s₁ h₁ => ?_
  obtain ⟨rfl, rfl⟩ := h₁
  have hS : (s.heap.push { cls := .type "list", data := .seq #[] }).get? s.heap.objs.size = some { cls := .type "list", data := .seq #[] } := Heap.get?_push_size _ rfl; refine ⟨⟨_, hS, rfl⟩, F.args_list_init_2 _ _, ?_⟩
  show wpAny _ _ (do let old ← Builtin.List.listItems (.ref s.heap.objs.size); Builtin.List.listUpdate (.ref s.heap.objs.size) (fun _ => #[]); letGo old.toList.reverse; Builtin.List.listExtendWith (.ref s.heap.objs.size) (.ref I) .none) _ _ _
  refine wpAny_bind ?_
  unfold Builtin.List.listItems
  refine wpAny_bind (wpAny_seqItems hS rfl (wpAny_pure ?_)); show wpAny _ _ (updateSeq s.heap.objs.size (fun _ => #[]) >>= fun _ => letGo (#[] : Array Value).toList.reverse >>= fun _ => Builtin.List.listExtendWith (.ref s.heap.objs.size) (.ref I) .none) _ _ _
  refine wpAny_bind (wpAny_updateSeq hS rfl ?_); have hS₂ := Heap.get?_update_self (Obj.mapSeq (fun _ => (#[] : Array Value))) hS rfl
  have oth : ∀ b o, b ≠ s.heap.objs.size → s.heap.get? b = some o → ((s.heap.push { cls := .type "list", data := .seq #[] }).update s.heap.objs.size (Obj.mapSeq (fun _ => (#[] : Array Value)))).get? b = some o :=
    fun b o hb e => (Heap.get?_update_other _ _ (Ne.symm hb)).trans (Heap.get?_push_of_some _ e)
  refine wpAny_bind (wpAny_letGo ?_); refine own_extend (A := A.in1) W hn hT n1 n2 (hint _) (W.frame 0 _ _ hst fun b hb o e => oth b o (fun z => hSf (z ▸ hb)) e) _ hSf hI .none _ hS₂ fun h' tk acc' c' hk hS' hacc => ?_
  exact ⟨rfl, hQ h' tk acc' c' (fun b o hb e => hk b o (Nat.ne_of_lt (Heap.lt_size e)) hb (oth b o (Nat.ne_of_lt (Heap.lt_size e)) e)) hS' hacc⟩
end

theorem walks_rt {prog : Program} {w : World} {A : Around} (hh : A.handled = none) (I t : Addr) (hne : t ≠ I) (items : Array Value) (hz : items.size ≤ sizeLine) :
    Walks prog w A I [I, t] [I] items.size (fun i v => items[items.size - 1 - i]? = some v) (fun i h => i ≤ items.size ∧ IsRt h I t ((items.size : Int) - 1 - (i : Int)) ∧ IsTup h t items) where
  sub := fun b hb => (by simp at hb; simp [hb])
  frame := fun _ _ _ x hk => ⟨x.1, x.2.1.at fun o e => hk I (by simp) o e, let ⟨o, ho, r⟩ := x.2.2; ⟨o, hk t (by simp) o ho, r⟩⟩
  item := fun i s (Q) E hi x hQ => by
    have e : (items.size : Int) - 1 - (i : Int) = ((items.size - 1 - i : Nat) : Int) := (by omega)
    obtain ⟨hle, hit, ht⟩ := x
    rw [e] at hit
    refine next_rt_item hit ht (x := items[items.size - 1 - i]'(by omega)) (Array.getElem?_eq_getElem (by omega)) hz fun h' hit' sb => ?_
    have e2 : ((items.size - 1 - i : Nat) : Int) - 1 = (items.size : Int) - 1 - ((i + 1 : Nat) : Int) := (by omega)
    rw [e2] at hit'
    exact hQ _ h' (s.toks + 1) (Array.getElem?_eq_getElem (by omega)) ⟨hi, hit', let ⟨o, ho, r⟩ := ht; ⟨o, (sb.2 t hne).trans ho, r⟩⟩ fun b o hb eo => (sb.2 b fun z => hb (by simp [z])).trans eo
  done := fun s Q E x hQ => by
    obtain ⟨hle, hit, ht⟩ := x
    have e : (items.size : Int) - 1 - (items.size : Int) = -1 := (by omega)
    rw [e] at hit
    exact next_rt_end hh hit fun h' he => hQ h' s.toks fun b o hb eo => he b o (fun z => hb (by simp [z])) eo
  self := fun _ _ _ _ x hQ => iter_rt x.2.1 hQ

/-- list(reversed(x)), x a tuple -/
def tLstRev (K : PySem.W.Frag) (te : TE) : TE := fun σ H Q => te σ H fun v H1 => ∃ (a : Addr) (xs : List V), v = .ref a ∧ SqT K H1 a xs ∧ ∀ q, H1 q = none → Q (.ref q) (upd H1 q (.lst xs.reverse))
theorem pe_lstRev {X : Cx} {e : Expr} {te : TE} {p p2 pos pos2 : Pos} (hc : X.calm = true) (hg : Gl X "list") (hm : X.mg "list" = none) (hg2 : Gl X "reversed") (hm2 : X.mg "reversed" = none) (he : PE X e te) (hs : starEach [e] X.env = (false, eval e X.env) :: starEach [] X.env := by rfl) (hs2 : starEach [.Call (.Name "reversed" p2) [e] [] pos2] X.env = (false, eval (.Call (.Name "reversed" p2) [e] [] pos2) X.env) :: starEach [] X.env := by rfl) :
    PE X (.Call (.Name "list" p) [.Call (.Name "reversed" p2) [e] [] pos2] [] pos) (tLstRev X.K te) := by
  refine ⟨fun pins s σ H Q I h => ?_⟩; refine Call_ (ld_blt I hg hm boot_list (PyProof.Rows.callWith_type1 (args_cons (Call_ (ld_blt I hg2 hm2 PyProof.Rows.boot_reversed (PyProof.Rows.callWith_type1 (args_cons (thn (he.run pins s σ H _ I h) fun u s1 ⟨v, H1, I1, r1, q1⟩ => args_nil ?_) hs) hs rfl))) hs2) hs2 rfl))
  obtain ⟨a, xs, ev, hq, q⟩ := q1; subst ev
  obtain rfl : u = Value.ref a := r1; obtain ⟨its, rv, p', hz⟩ := I1.tuple hq
  have hl := rv.length
  have hn := line63
  have hzz : its.toArray.size ≤ sizeLine := by rw [List.size_toArray, ← hl]; exact hz
  refine call_reversed_tup p' (fun A E Q k => len_tuple p' (by simp only [List.size_toArray] <;> omega) k) (args_nil ?_)
  have k0 : ∀ b o, s1.heap.get? b = some o → (s1.heap.push (rtObj a ((its.toArray.size : Int) - 1))).get? b = some o := fun b o e => Heap.get?_push_of_some _ e
  have I2 : Inv X pins σ H1 { s1 with heap := s1.heap.push (rtObj a ((its.toArray.size : Int) - 1)), toks := s1.toks + 1 + 1 } := I1.kept (t' := s1.toks + 1 + 1) k0
  obtain ⟨f0, f1, f2, f3, f4, f5⟩ := I1.fpOk (H' := H1) (b := s1.heap.objs.size) (Nat.le_refl _) (I1.hok.fresh (Nat.le_refl _)); obtain ⟨ot, hot, rt⟩ := id p'
  have hlt : a < s1.heap.objs.size := Heap.lt_size hot
  have hne : a ≠ s1.heap.objs.size := Nat.ne_of_lt hlt
  have hsz : (s1.heap.push (rtObj a ((its.toArray.size : Int) - 1))).objs.size = s1.heap.objs.size + 1 := Heap.size_push ..
  have hrt : IsRt (s1.heap.push (rtObj a ((its.toArray.size : Int) - 1))) s1.heap.objs.size a ((its.toArray.size : Int) - 1) := ⟨_, Heap.get?_push_size _ rfl, rfl, rfl⟩
  have ht2 : IsTup (s1.heap.push (rtObj a ((its.toArray.size : Int) - 1))) a its.toArray := ⟨ot, k0 _ _ hot, rt⟩
  refine own_call (T := "reversed") (I := s1.heap.objs.size) (s := { s1 with heap := s1.heap.push (rtObj a ((its.toArray.size : Int) - 1)), toks := s1.toks + 1 + 1 }) (walks_rt (A := X.A.in1.in1) (show X.A.in1.in1.handled = none from I1.ok.hd hc) s1.heap.objs.size a hne its.toArray hzz) hzz (fun s1 st => st.2.1.typeIs) (by decide) (by decide)
    (fun A' s2 E2 Q2 st hq2 => by
      obtain ⟨_, st1, st2⟩ := st
      have e0 : ((its.toArray.size : Nat) : Int) - 1 - ((0 : Nat) : Int) = (its.toArray.size : Int) - 1 := by omega
      rw [e0] at st1
      exact hint_rt st1 hzz (fun A E Q k => len_tuple st2 (by simp only [List.size_toArray] <;> omega) k) hq2)
    ⟨Nat.zero_le _, by rw [show ((its.toArray.size : Nat) : Int) - 1 - ((0 : Nat) : Int) = (its.toArray.size : Int) - 1 by omega]; exact hrt, ht2⟩ (fun b hb => ?_) (by simp) fun h' tk acc c hk hS hi => ?_
  · show b < (s1.heap.push (rtObj a ((its.toArray.size : Int) - 1))).objs.size
    rw [hsz]
    rcases (List.mem_cons.mp hb) with rfl | hb
    · exact Nat.lt_succ_self _
    · rw [List.mem_singleton.mp hb]; exact (Nat.lt_succ_of_lt hlt)
  have e1 : ((s1.heap.push (rtObj a ((its.toArray.size : Int) - 1))).objs.size) = s1.heap.objs.size + 1 := hsz
  have hS : h'.get? (s1.heap.push (rtObj a ((its.toArray.size : Int) - 1))).objs.size = some { cls := .type "list", dict := none, data := .seq acc c, slots := #[] } := hS
  have new : ObjOk X.prog X.w (upd H1 (s1.heap.push (rtObj a ((its.toArray.size : Int) - 1))).objs.size (.lst xs.reverse)) h' (s1.heap.push (rtObj a ((its.toArray.size : Int) - 1))).objs.size (.lst xs.reverse) :=
    ⟨by rw [List.length_reverse]; exact hz, acc.toList, c, vals_rev rv hi, by rw [Array.toArray_toList]; exact hS⟩
  have I3 := I2.turnedNew (t' := tk) (ch := [s1.heap.objs.size]) (T := (s1.heap.push (rtObj a ((its.toArray.size : Int) - 1))).objs.size) (fun b o hb e => hk b o (fun z => hb (by simp [z])) e) (fun b hb => by
    rw [List.mem_singleton.mp hb]
    exact ⟨f0, f1, f2, f3, f4, f5⟩) (Nat.le_refl _) new
  exact ⟨.ref (s1.heap.push (rtObj a ((its.toArray.size : Int) - 1))).objs.size, _, I3, rfl, q _ (I2.hok.fresh (Nat.le_refl _))⟩
def gLstRev (d : D) (S : Sto) : Res D := match tupV d with
  | some xs => .ok (.ref S.nx) (S.new (.lst xs.reverse))
  | none => .bad
def dLstRev (fa : DE) : DE := fun Γ S => (fa Γ S).bind gLstRev
theorem xlstRev {X : Cx} {C : Cfg} {W : XK} {e : Expr} {fa : DE} {p p2 pos pos2 : Pos} (hK : X.K = C.K) (hc : X.calm = true) (hg : Gl X "list") (hm : X.mg "list" = none) (hg2 : Gl X "reversed") (hm2 : X.mg "reversed" = none) (he : PE X e (tE C W fa)) (hs : starEach [e] X.env = (false, eval e X.env) :: starEach [] X.env := by rfl) (hs2 : starEach [.Call (.Name "reversed" p2) [e] [] pos2] X.env = (false, eval (.Call (.Name "reversed" p2) [e] [] pos2) X.env) :: starEach [] X.env := by rfl) :
    PE X (.Call (.Name "list" p) [.Call (.Name "reversed" p2) [e] [] pos2] [] pos) (tE C W (dLstRev fa)) :=
  (pe_lstRev hc hg hm hg2 hm2 he hs hs2).by fun σ H Q ⟨M, Γ, S, g, s, h⟩ => run1 g s h fun M1 d S1 x H1 l1 s1 r1 h1 => by
    unfold gLstRev at h1
    split at h1
    · rename_i xs e1
      obtain ⟨a, us, rfl, ha, rl⟩ := tup_of s1 r1 e1
      exact ⟨a, us, rfl, hK ▸ ha, fun p hp => newSto h1 s1 ⟨_, rfl, rl.reverse⟩ hp⟩
    · exact h1.elim
end Pd

/-! list(enumerate(x, start=k)), x a tuple -/
namespace Pd
open L2 PySem PySem.Spec PyProof.Rows

theorem at_alive {M : Model} {A : Around} {E : Value → Shared → Prop} {s : Shared} {a : Addr} {Q : Option Obj → Shared → Prop} (h : Q (s.heap.get? a) s) : wpAny M A (loadIfAlive a) Q E s := fun Γ p _ => by
  show Sem.wp M Γ (.loadIfAlive a .pure) _ _ p s
  rw [Sem.wp_loadIfAlive]
  exact h
theorem callWith_typeKw {M : Model} {A : Around} {E : Value → Shared → Prop} {s : Shared} {env : Env} {pos : Pos} {T : String} {e : Expr} {kws : List Keyword} {Q : Value → Shared → Prop}
    (h : wpAny M A (spliced (backTo pos (starEach [e] env))) (fun us s1 => wpAny M A (evalAll ((backToKw pos (keywordEach kws env)).map (·.2))) (fun ks s2 => wpAny M A (call (.type T) us (((backToKw pos (keywordEach kws env)).filterMap (·.1)).zip ks)) Q E s2) E s1) E s)
    (he : backTo pos (starEach [e] env) = (false, eval e env) :: backTo pos (starEach [] env) := by rfl) (hall : (backToKw pos (keywordEach kws env)).all (·.1.isSome) = true := by rfl) (hkw : (backToKw pos (keywordEach kws env)).any (·.1.isNone) = false := by rfl) :
    wpAny M A (callWith pos (.type T) [] (backTo pos (starEach [e] env)) (backToKw pos (keywordEach kws env))) Q E s := by
  have hp : (backTo pos (starEach [e] env)).any (·.1) = false := by rw [he]; rfl
  have h2 : wpAny M A (evalArgs (.type T) true (backTo pos (starEach [e] env)) (backToKw pos (keywordEach kws env))) (fun a s1 => wpAny M A (call (.type T) ([] ++ a.pos) a.kw) Q E s1) E s := by
    rw [he] at h ⊢
    exact evalArgs_kwB hall h
  unfold callWith
  refine wpAny_bind (wpAny_holding (wpAny_mono h2 (fun a s1 h1 => wpAny_bind (wpAny_standAt ?_)) fun _ _ x => x))
  simp only [hp, hkw, Bool.or_false]
  exact wpAny_bind (wpAny_pure (wpAny_bind (wpAny_mono h1 (fun r s2 hr => wpAny_bind (wpAny_holding (wpAny_point (wpAny_pure hr)))) fun _ _ x => x)))

/-- an enumerate object whose tuple is handed out -/
abbrev EnS (h : Heap) (e it : Addr) (c : Int) (T : Addr) (b : Bool) (x : Value) : Prop :=
  h.get? e = some { cls := .type "enumerate", dict := none, data := .fields #[rawInt T, .bool b, .ref it, rawInt c, .none, x], slots := #[] }
section
variable {prog : Program} {w : World} {s : Shared} {A : Around} {E : Value → Shared → Prop}
theorem en_again {e it T : Addr} {fp : List Addr} {n i : Nat} {c : Int} {Pv : Nat → Value → Prop} {St : Nat → Heap → Prop} {b : Bool} {x : Value} {Q : Value → Shared → Prop}
    (D : Draws prog w A it fp n Pv St) (he : EnS s.heap e it c T b x) (hal : ∃ o, s.heap.get? T = some o) (hst : St i s.heap) (hlt : i < n) (hne : e ≠ it) (hef : e ∉ fp) (hTe : T ≠ e) (hTi : T ≠ it)
    (hQ : ∀ y h' tk, Pv i y → EnS h' e it (c + 1) T true x → St (i + 1) h' → h'.get? s.heap.objs.size = some { cls := .type "tuple", data := .seq #[.int c tk, y] } →
      (∀ a o, a ≠ e → a ≠ it → s.heap.get? a = some o → h'.get? a = some o) → Q (.ref s.heap.objs.size) { s with heap := h', toks := tk + 1 }) : wpAny (model prog w) A (Builtin.«enumerate.__next__» ⟨[.ref e], []⟩) (fun fin s' => ∃ v, fin = .done (.ret v) ∧ Q v s') E s := by
  obtain ⟨hp, g, d, tk0, os⟩ := s; show wpAny _ _ (field (.ref e) 2 >>= _) _ _ _
  refine wpAny_bind (wpAny_field he rfl (x := .ref it) rfl ?_); refine wpAny_bind (D.item i _ _ _ hlt hst fun y h1 tk hPy hit1 hs1 => ?_)
  replace hs1 : Heap.SameBut it hp h1 := hs1
  have he1 : EnS h1 e it c T b x := (hs1.2 e hne).trans he
  show wpAny _ _ (field (.ref e) 3 >>= _) _ _ ⟨h1, g, d, tk, os⟩
  refine wpAny_bind (wpAny_field he1 rfl (x := rawInt c) rfl ?_)
  show wpAny _ _ (field (.ref e) 4 >>= _) _ _ ⟨h1, g, d, tk, os⟩
  refine wpAny_bind (wpAny_field he1 rfl (x := .none) rfl ?_)
  show wpAny _ _ (mkInt c >>= _) _ _ ⟨h1, g, d, tk, os⟩
  refine wpAny_bind (wpAny_mkInt ?_); show wpAny _ _ (setField (.ref e) 3 (rawInt (c + 1)) >>= _) _ _ ⟨h1, g, d, tk + 1, os⟩
  refine wpAny_bind (wpAny_setField_rec he1 (by simp) fun h2 he2 hs2 => ?_)
  replace hs2 : Heap.SameBut e h1 h2 := hs2
  replace he2 : EnS h2 e it (c + 1) T b x := he2
  show wpAny _ _ (setField (.ref e) 4 .none >>= _) _ _ ⟨h2, g, d, tk + 1, os⟩
  refine wpAny_bind (wpAny_setField_rec he2 (by simp) fun h3 he3 hs3 => ?_)
  replace hs3 : Heap.SameBut e h2 h3 := hs3
  replace he3 : EnS h3 e it (c + 1) T b x := he3
  show wpAny _ _ (newTuple [.int c tk, y] >>= _) _ _ ⟨h3, g, d, tk + 1, os⟩
  refine wpAny_bind (wpAny_newTuple ?_); have hsz : h3.objs.size = hp.objs.size := by rw [hs3.1, hs2.1, hs1.1]
  have k3 : ∀ a o, a ≠ e → a ≠ it → hp.get? a = some o → h3.get? a = some o := fun a o z1 z2 q => hs3.extBut a o z1 (hs2.extBut a o z1 (hs1.extBut a o z2 q))
  have st3 : St (i + 1) h3 := D.frame _ _ _ hit1 fun a ha o q => by
    have hae : a ≠ e := fun z => hef (z ▸ ha)
    exact hs3.extBut a o hae (hs2.extBut a o hae q)
  obtain ⟨oT, hoT⟩ := hal
  have hoT : hp.get? T = some oT := hoT
  have hT3 : h3.get? T = some oT := k3 T oT hTe hTi hoT
  generalize hh4 : h3.push { cls := .type "tuple", data := .seq #[.int c tk, y] } = h4
  have k4 : ∀ a o, h3.get? a = some o → h4.get? a = some o := fun a o q => by rw [← hh4]; exact Heap.get?_push_of_some _ q
  have he4 : EnS h4 e it (c + 1) T b x := k4 _ _ he3
  have hnew : h4.get? hp.objs.size = some { cls := .type "tuple", data := .seq #[.int c tk, y] } := by rw [← hh4, ← hsz]; exact Heap.get?_push_size _ rfl
  have hel : e < hp.objs.size := Heap.lt_size he; show wpAny _ _ (Builtin.SmallTypes.ownedTupleIsFree (.ref e) >>= _) _ _ ⟨h4, g, d, tk + 1, os⟩
  rw [hsz]
  have fin : ∀ h5 : Heap, EnS h5 e it (c + 1) T true x → (∀ a o, a ≠ e → h4.get? a = some o → h5.get? a = some o) → Q (.ref hp.objs.size) ⟨h5, g, d, tk + 1, os⟩ := fun h5 he5 k5 =>
    hQ y h5 tk hPy he5 (D.frame _ _ _ st3 fun a ha o q => k5 a o (fun z => hef (z ▸ ha)) (k4 a o q)) (k5 _ _ (Nat.ne_of_gt hel) hnew) fun a o z1 z2 q => k5 a o z1 (k4 a o (k3 a o z1 z2 q))
  (unfold Builtin.SmallTypes.ownedTupleIsFree)
  refine wpAny_bind (wpAny_bind (wpAny_field he4 rfl (x := rawInt T) rfl ?_))
  show wpAny _ _ (loadIfAlive (T : Int).toNat >>= _) _ _ _
  refine wpAny_bind (at_alive ?_)
  have e1 : h4.get? (T : Int).toNat = some oT := by
    rw [Int.toNat_natCast]
    exact k4 _ _ hT3
  show wpAny _ _ (if (h4.get? (T : Int).toNat).isNone = true then _ else _) _ _ _
  rw [e1, if_neg (show ¬ ((some oT).isNone = true) from Bool.false_ne_true)]
  refine wpAny_bind (wpAny_field he4 rfl (x := .bool b) rfl ?_)
  cases b with
  | true =>
    refine wpAny_ite_split (fun hab => absurd hab (by decide)) fun _ => wpAny_pure ?_
    exact wpAny_pure ⟨_, rfl, fin h4 he4 fun a o _ q => q⟩
  | false =>
    refine wpAny_ite_split (fun _ => ?_) fun hab => absurd (by decide) hab
    refine wpAny_bind (wpAny_setField_rec he4 (by simp) fun h5 he5 hs5 => ?_)
    replace hs5 : Heap.SameBut e h4 h5 := hs5
    refine wpAny_pure (wpAny_pure ⟨_, rfl, fin h5 he5 fun a o z q => hs5.extBut a o z q⟩)

/-- an enumerate object that can be asked -/
def EnAny (h : Heap) (e it : Addr) (c : Int) : Prop := (∃ old, IsEnum h e it c old) ∨ ∃ T b x, EnS h e it c T b x ∧ (∃ o, h.get? T = some o) ∧ T ≠ e ∧ T ≠ it
theorem EnAny.typeIs {e it : Addr} {c : Int} (x : EnAny s.heap e it c) : s.TypeIs (.ref e) "enumerate" := by
  rcases x with ⟨_, h⟩ | ⟨_, _, _, h, _⟩
  · exact ⟨_, h, rfl⟩
  · exact ⟨_, h, rfl⟩
theorem EnAny.lt {h : Heap} {e it : Addr} {c : Int} (x : EnAny h e it c) : e < h.objs.size := by
  rcases x with ⟨_, h⟩ | ⟨_, _, _, h, _⟩
  · exact Heap.lt_size h
  · exact Heap.lt_size h
theorem EnAny.keep {h h' : Heap} {e it : Addr} {c : Int} (x : EnAny h e it c) {S : Addr} (hS : S ≠ e) (hk : ∀ a o, a ≠ S → h.get? a = some o → h'.get? a = some o) (hs : ∀ o, h.get? S = some o → ∃ o', h'.get? S = some o') : EnAny h' e it c := by
  rcases x with ⟨old, h⟩ | ⟨T, b, x, h, ⟨o, ho⟩, z⟩
  · exact .inl ⟨old, hk _ _ hS.symm h⟩
  · refine .inr ⟨T, b, x, hk _ _ hS.symm h, ?_, z⟩
    by_cases q : T = S
    · subst q; exact hs o ho
    · exact ⟨o, hk _ _ q ho⟩
theorem en_next {e it : Addr} {fp : List Addr} {n i : Nat} {c : Int} {Pv : Nat → Value → Prop} {St : Nat → Heap → Prop} {Q : Option Value → Shared → Prop}
    (D : Draws prog w A.in1 it fp n Pv St) (he : EnAny s.heap e it c) (hst : St i s.heap) (hlt : i < n) (hne : e ≠ it) (hef : e ∉ fp)
    (hQ : ∀ y h' tk, Pv i y → EnAny h' e it (c + 1) → St (i + 1) h' → h'.get? s.heap.objs.size = some { cls := .type "tuple", data := .seq #[.int c tk, y] } →
      (∀ a o, a ≠ e → a ≠ it → s.heap.get? a = some o → h'.get? a = some o) → Q (some (.ref s.heap.objs.size)) { s with heap := h', toks := tk + 1 }) : wpAny (model prog w) A (pyNext (.ref e)) Q E s := by
  rcases id he with ⟨old, h0⟩ | ⟨T, b, x, h0, hal, z1, z2⟩
  · have hel : e < s.heap.objs.size := Heap.lt_size h0
    have hil : it < s.heap.objs.size := by obtain ⟨_, q⟩ := D.live _ _ hst; exact Heap.lt_size q
    exact wpAny_pyNext_enum_itemC D h0 hst hlt hne hef fun y h' tk hP ho hs' hT hsz hk => hQ y h' tk hP (.inr ⟨_, _, _, ho, ⟨_, hT⟩, Nat.ne_of_gt hel, Nat.ne_of_gt hil⟩) hs' hT hk
  · unfold pyNext
    exact wpAny_bind (wpAny_attempt (wpAny_callSpecial?_slot (name := Str.ofString "__next__") he.typeIs F.slot_enumerate_next (wpAny_call_entry F.slot_enumerate_next he.typeIs F.entry_enumerate_next
      (en_again D h0 hal hst hlt hne hef z1 z2 fun y h' tk hP ho hs' hT hk => wpAny_pure (hQ y h' tk hP (.inr ⟨T, true, x, ho, let ⟨o, q⟩ := hal; ⟨o, hk _ _ z1 z2 q⟩, z1, z2⟩) hs' hT hk)) (F.args_enumerate_next_1 _))))
theorem en_end {e it : Addr} {fp : List Addr} {n : Nat} {c : Int} {Pv : Nat → Value → Prop} {St : Nat → Heap → Prop} {Q : Option Value → Shared → Prop}
    (D : Draws prog w A.in1 it fp n Pv St) (he : EnAny s.heap e it c) (hst : St n s.heap) (hQ : ∀ h', Heap.ExtBut it s.heap h' → Q none { s with heap := h' }) : wpAny (model prog w) A (pyNext (.ref e)) Q E s := by
  have go : ∀ (o : Obj), s.heap.get? e = some o → (∃ xs, o.data = .fields xs ∧ xs[2]? = some (.ref it)) → wpAny (model prog w) A.in1 (Builtin.«enumerate.__next__» ⟨[.ref e], []⟩) (fun fin s' => ∃ v, fin = .done (.ret v) ∧ wpAny (model prog w) A (pure (some v)) Q E s') (fun x s' => wpAny (model prog w) A (isInstance x (.type "StopIteration") >>= fun b => if b then pure none else throw x) Q E s') s := fun o ho ⟨xs, hd, hx⟩ => by
    show wpAny _ _ (field (.ref e) 2 >>= _) _ _ _; refine wpAny_bind (wpAny_field ho hd hx ?_)
    refine wpAny_bind (D.done _ _ _ hst fun h' x he' hx' => ?_); obtain ⟨o, ho, hc⟩ := hx'
    refine wpAny_bind (wpAny_isInstance (T := "StopIteration") (b := true) ⟨o, ho, hc⟩ isSubtype_stop ?_); exact wpAny_pure (hQ _ he')
  have t := he.typeIs
  unfold pyNext
  refine wpAny_bind (wpAny_attempt (wpAny_callSpecial?_slot (name := Str.ofString "__next__") t F.slot_enumerate_next (wpAny_call_entry F.slot_enumerate_next t F.entry_enumerate_next ?_ (F.args_enumerate_next_1 _))))
  rcases he with ⟨old, h0⟩ | ⟨T, b, x, h0, _⟩
  · exact go _ h0 ⟨_, rfl, rfl⟩
  · exact go _ h0 ⟨_, rfl, rfl⟩
end

theorem upd_swap {H : Hp} {a b : Addr} {o u : HO} (h : a ≠ b) : upd (upd H a o) b u = upd (upd H b u) a o := by
  funext c
  by_cases ha : c = a
  · subst ha; rw [upd_ne h, upd_same, upd_same]
  · by_cases hb : c = b
    · subst hb; rw [upd_same, upd_ne ha, upd_same]
    · rw [upd_ne hb, upd_ne ha, upd_ne ha, upd_ne hb]
theorem upd_twice {H : Hp} {a : Addr} {o u : HO} : upd (upd H a o) a u = upd H a u := by
  funext c
  by_cases ha : c = a
  · subst ha; rw [upd_same, upd_same]
  · rw [upd_ne ha, upd_ne ha, upd_ne ha]
section
variable {X : Cx} {pins : List (Addr × Obj)} {σ : L2.St} {A : Around}
theorem en_loop {e it a S : Addr} {k0 : Int} {xs : List V} {its : List Value} {Pv : Nat → Hp → List V → Prop} {R : Result → Shared → Prop} {res : Value}
    (hA : A.handled = none) (rv : Vals xs its) (hz : xs.length ≤ sizeLine) (hei : e ≠ it) (hea : e ≠ a) (hai : a ≠ it) (hSe : S ≠ e) (hSi : S ≠ it) (hSa : S ≠ a)
    (step : ∀ (i : Nat) H vs x T, Pv i H vs → xs[i]? = some x → H T = none → Pv (i + 1) (upd H T (.tup [.int (k0 + (i : Int)), x])) (vs ++ [.ref T]))
    (fin : ∀ H vs s, L2.Inv X pins σ (upd H S (.lst vs)) s → H S = none → Pv its.toArray.size H vs → R (.ok (.ret res)) s) :
    ∀ (k i : Nat) (s : Shared) (H : Hp) (vs : List V), its.toArray.size - i = k → i ≤ its.toArray.size → L2.Inv X pins σ (upd H S (.lst vs)) s → H S = none → FpOk X pins (upd H S (.lst vs)) e → FpOk X pins (upd H S (.lst vs)) it → Pv i H vs → vs.length = i →
      EnAny s.heap e it (k0 + (i : Int)) → s.heap.IsTupleIter it a i → s.heap.IsTuple a its.toArray → codeAny (model X.prog X.w) A (.builtin "list.extend.loop" ⟨[.ref S, .ref e, res], []⟩) R s := by
  have D := Draws.tuple (prog := X.prog) (w := X.w) (A := A.in1.in1) (show A.in1.in1.handled = none from hA) it a hai its.toArray
  have hef : e ∉ [it, a] := by simp [hei, hea]
  intro k
  induction k with
  | zero =>
    intro i s H vs hk hi I hn fe fi hp hl he hit ht
    obtain rfl : i = its.toArray.size := by omega
    refine codeAny_builtin F.entry_extend_loop ?_; rw [Around.under_plainId F.plain_extend_loop _]
    show wpAny _ A.in1 (pyNext (.ref e) >>= _) _ _ s
    refine wpAny_bind (en_end D he ⟨hit, ht⟩ fun h' hx => ?_)
    obtain ⟨f0, f1, f2, f3, f4, f5⟩ := fi
    exact wpAny_pure (fin H vs _ (I.turned (t' := s.toks) (fun b o hb q => hx b o hb q) f0 f1 f3 f4 f5) hn hp)
  | succ k ih =>
    intro i s H vs hk hi I hn fe fi hp hl he hit ht
    have hlt : i < its.toArray.size := by omega
    have hlx : i < xs.length := by rw [rv.length, ← List.size_toArray]; exact hlt
    refine codeAny_builtin F.entry_extend_loop ?_; rw [Around.under_plainId F.plain_extend_loop _]
    show wpAny _ A.in1 (pyNext (.ref e) >>= _) _ _ s
    refine wpAny_bind (en_next D he ⟨hit, ht⟩ hlt hei hef fun y h' tk hy he' hst hT hk' => ?_)
    obtain ⟨hit', ht'⟩ := hst
    have hel : e < s.heap.objs.size := he.lt
    have hil : it < s.heap.objs.size := (by obtain ⟨_, q, _⟩ := hit; exact Heap.lt_size q)
    have hSl : S < s.heap.objs.size := by
      obtain ⟨_, _, _, _, q⟩ := (show ObjOk X.prog X.w _ s.heap S (.lst vs) from I.hok S _ upd_same)
      exact Heap.lt_size q
    have hTS : s.heap.objs.size ≠ S := Nat.ne_of_gt hSl
    have hy : its.toArray[i]? = some y := hy
    obtain ⟨u, hu, ru⟩ := rv.get (List.getElem?_eq_getElem hlx)
    have : y = u := by
      rw [List.getElem?_toArray] at hy
      rw [hu] at hy; cases hy; rfl
    subst this
    have new : ObjOk X.prog X.w (upd (upd H S (.lst vs)) s.heap.objs.size (.tup [.int (k0 + (i : Int)), xs[i]])) h' s.heap.objs.size (.tup [.int (k0 + (i : Int)), xs[i]]) :=
      ⟨by show 2 ≤ sizeLine; decide, [.int (k0 + (i : Int)) tk, y], .cons ⟨_, rfl⟩ (.cons ru .nil), ⟨_, hT, rfl, _, rfl⟩⟩
    have I1 : L2.Inv X pins σ (upd (upd H S (.lst vs)) s.heap.objs.size (.tup [.int (k0 + (i : Int)), xs[i]])) { s with heap := h', toks := tk + 1 } :=
      I.turnedNew (ch := [e, it]) (fun b ob hb q => hk' b ob (fun z => hb (by simp [z])) (fun z => hb (by simp [z])) q) (fun b hb => by
        rcases (List.mem_cons.mp hb) with rfl | hb
        · exact fe
        · rw [List.mem_singleton.mp hb]; exact fi) (Nat.le_refl _) new
    have hn1 : (upd H S (.lst vs)) s.heap.objs.size = none := I.hok.fresh (Nat.le_refl _)
    have hnT : H s.heap.objs.size = none := by rw [upd_ne hTS] at hn1; exact hn1
    rw [upd_swap hTS.symm] at I1
    obtain ⟨hzl, us, c, ru2, gS⟩ := (show ObjOk X.prog X.w _ h' S (.lst vs) from I1.hok S _ upd_same)
    have hul : us.length = i := by rw [← ru2.length]; exact hl
    refine wpAny_bind ?_
    refine wpAny_updateSeq (s := { s with heap := h', toks := tk + 1 }) gS rfl (wpAny_pure ⟨plainId_quiet F.plain_extend_loop _, ?_⟩) (by rw [List.size_toArray, hul]; omega) (by show (us.toArray.push _).size ≤ sizeLine + 1; rw [Array.size_push, List.size_toArray, hul]; omega)
    have hS2 := Heap.get?_update_self (Obj.mapSeq (·.push (Value.ref s.heap.objs.size))) gS rfl
    have oth : ∀ b o, b ≠ S → h'.get? b = some o → (h'.update S (Obj.mapSeq (·.push (Value.ref s.heap.objs.size)))).get? b = some o := fun b o hb q => (Heap.get?_update_other _ _ (Ne.symm hb)).trans q
    have I2 := I1.write (x := S) (e := S) (o := .lst (vs ++ [.ref s.heap.objs.size])) (t' := tk + 1) (h' := h'.update S (Obj.mapSeq (·.push (Value.ref s.heap.objs.size)))) (by rw [upd_same]; trivial) (.inl rfl) oth ⟨_, hS2⟩
      ⟨by rw [List.length_append, hl]; show i + 1 ≤ sizeLine; omega, us ++ [.ref s.heap.objs.size], _, ru2.append (.cons (show L2.RelV (.ref s.heap.objs.size) (.ref s.heap.objs.size) from rfl) .nil), by rw [← List.push_toArray]; exact hS2⟩
    rw [upd_twice] at I2
    refine ih (i + 1) _ _ _ (by omega) hlt I2 (by rw [upd_ne hTS.symm]; exact hn) ?_ ?_ (step i H vs _ _ hp (List.getElem?_eq_getElem hlx) hnT) (by rw [List.length_append, hl]; rfl) ?_ (hit'.at fun o q => oth _ _ hSi.symm q) (ht'.at fun o q => oth _ _ hSa.symm q)
    · obtain ⟨f0, f⟩ := fe
      refine ⟨?_, f⟩
      rw [upd_ne hSe.symm] at f0 ⊢
      rw [upd_ne (Nat.ne_of_lt hel)]; exact f0
    · obtain ⟨f0, f⟩ := fi
      refine ⟨?_, f⟩
      rw [upd_ne hSi.symm] at f0 ⊢
      rw [upd_ne (Nat.ne_of_lt hil)]; exact f0
    · rw [show k0 + ((i + 1 : Nat) : Int) = k0 + (i : Int) + 1 by omega]
      exact he'.keep hSe oth fun o q => ⟨_, hS2⟩
end

theorem en_nolen : typeLookup (.type "enumerate") "__len__" = pure none := by rw [typeLookup_type, builtinLookup_eq_fast]; kernel_rfl
theorem en_nohint : typeLookup (.type "enumerate") "__length_hint__" = pure none := by rw [typeLookup_type, builtinLookup_eq_fast]; kernel_rfl
section
variable {prog : Program} {w : World} {s : Shared} {A : Around} {E : Value → Shared → Prop}
/-- list(an iterator), as far as its loop -/
theorem own_begin {T : String} {I : Addr} {Q : Value → Shared → Prop} (hT : ∀ h', (∀ b o, s.heap.get? b = some o → h'.get? b = some o) → Shared.TypeIs { s with heap := h' } (.ref I) T) (n1 : (Value.type T == Value.type "list") = false) (n2 : (Value.type T == Value.type "tuple") = false)
    (self : ∀ (A : Around) (E Q : Value → Shared → Prop) h', (∀ b o, s.heap.get? b = some o → h'.get? b = some o) → Q (.ref I) { s with heap := h' } → wpAny (model prog w) A (pyIter (.ref I)) Q E { s with heap := h' })
    (hint : ∀ (A : Around) (E : Value → Shared → Prop) (Q : Bool → Shared → Prop) h', (∀ b o, s.heap.get? b = some o → h'.get? b = some o) → (∀ b tk, s.toks ≤ tk → Q b { s with heap := h', toks := tk }) → wpAny (model prog w) A (Builtin.List.listLengthHint (.ref I)) Q E { s with heap := h' })
    (hI : I < s.heap.objs.size)
    (loop : ∀ h' tk c, (∀ b o, s.heap.get? b = some o → h'.get? b = some o) → h'.get? s.heap.objs.size = some { cls := .type "list", data := .seq #[] c } →
      codeAny (model prog w) A.in1 (.builtin "list.extend.loop" ⟨[.ref s.heap.objs.size, .ref I, .none], []⟩) (wants (fun r s2 => r = .none ∧ Q (.ref s.heap.objs.size) s2) E) { s with heap := h', toks := tk }) : wpAny (model prog w) A (call (.type "list") [.ref I]) Q E s := by
  refine callType_codes (Q₁ := fun obj s1 => obj = .ref s.heap.objs.size ∧ s1 = { s with heap := s.heap.push { cls := .type "list", data := .seq #[] } }) F.called_list (F.typeCall_list_1 _) F.entry_list_init (code_list_new _ ⟨rfl, rfl⟩) fun obj s1 h1 => ?_
  obtain ⟨rfl, rfl⟩ := h1
  have hS : (s.heap.push { cls := .type "list", data := .seq #[] }).get? s.heap.objs.size = some { cls := .type "list", data := .seq #[] } := Heap.get?_push_size _ rfl; refine ⟨⟨_, hS, rfl⟩, F.args_list_init_2 _ _, ?_⟩
  show wpAny _ _ (do let old ← Builtin.List.listItems (.ref s.heap.objs.size); Builtin.List.listUpdate (.ref s.heap.objs.size) (fun _ => #[]); letGo old.toList.reverse; Builtin.List.listExtendWith (.ref s.heap.objs.size) (.ref I) .none) _ _ _
  refine wpAny_bind ?_
  unfold Builtin.List.listItems
  refine wpAny_bind (wpAny_seqItems hS rfl (wpAny_pure ?_)); show wpAny _ _ (updateSeq s.heap.objs.size (fun _ => #[]) >>= fun _ => letGo (#[] : Array Value).toList.reverse >>= fun _ => Builtin.List.listExtendWith (.ref s.heap.objs.size) (.ref I) .none) _ _ _
  refine wpAny_bind (wpAny_updateSeq hS rfl ?_); have hS2 := Heap.get?_update_self (Obj.mapSeq (fun _ => (#[] : Array Value))) hS rfl
  have oth : ∀ b o, s.heap.get? b = some o → ((s.heap.push { cls := .type "list", data := .seq #[] }).update s.heap.objs.size (Obj.mapSeq (fun _ => (#[] : Array Value)))).get? b = some o :=
    fun b o e => (Heap.get?_update_other _ _ (Nat.ne_of_gt (Heap.lt_size e))).trans (Heap.get?_push_of_some _ e)
  refine (wpAny_bind (wpAny_letGo ?_))
  generalize hh2 : (s.heap.push { cls := .type "list", data := .seq #[] }).update s.heap.objs.size (Obj.mapSeq (fun _ => (#[] : Array Value))) = h2 at hS2 oth
  (unfold Builtin.List.listExtendWith)
  refine wpAny_bind (wpAny_typeOf (T := T) (hT h2 oth) ?_)
  have hne : s.heap.objs.size ≠ I := Nat.ne_of_gt hI
  have h1 : Builtin.List.listSameRef (.ref s.heap.objs.size) (.ref I) = false := by simp [Builtin.List.listSameRef, hne]
  simp only [h1, n1, n2, Bool.or_false, Bool.false_eq_true, if_false]
  refine wpAny_bind (self _ _ _ _ oth ?_)
  refine wpAny_bind (wpAny_holding (hint _ _ _ _ oth fun bb tk htk => ?_))
  refine wpAny_ite_split (fun _ => ?_) (fun _ => wpAny_pure ⟨plainId_quiet F.plain_extend_loop _, loop h2 tk _ oth hS2⟩)
  refine wpAny_bind (wpAny_rule (wpAny_bind ?_)); show wpAny _ _ (updateSeq s.heap.objs.size (·.push .none) >>= fun _ => updateSeq s.heap.objs.size (·.pop)) _ _ _
  refine wpAny_bind (wpAny_updateSeq (s := { s with heap := h2, toks := tk }) hS2 rfl ?_)
  have hS3 := Heap.get?_update_self (Obj.mapSeq (·.push Value.none)) hS2 rfl; refine wpAny_updateSeq (hz := by seq_fits) hS3 rfl ?_
  have hS4 := Heap.get?_update_self (Obj.mapSeq (·.pop)) hS3 rfl; refine wpAny_pure ⟨plainId_quiet F.plain_extend_loop _, loop _ tk _ (fun b o e => ?_) hS4⟩
  have hb := Nat.ne_of_gt (Heap.lt_size e)
  exact (Heap.get?_update_other _ _ hb).trans ((Heap.get?_update_other _ _ hb).trans (oth b o e))
end

theorem hint_en {prog : Program} {w : World} {A : Around} {E : Value → Shared → Prop} {s : Shared} {e : Addr} {Q : Bool → Shared → Prop} (hT : s.TypeIs (.ref e) "enumerate") (h : Q true s) : wpAny (model prog w) A (Builtin.List.listLengthHint (.ref e)) Q E s := by
  (unfold Builtin.List.listLengthHint)
  refine wpAny_bind (wpAny_specialOf hT en_nolen ?_)
  show wpAny _ _ (specialOf (Value.ref e) (Str.ofString "__length_hint__") >>= _) _ _ _
  refine wpAny_bind (wpAny_specialOf hT en_nohint ?_)
  exact wpAny_pure h
/-- list(enumerate(x, start=k)), x a tuple -/
def tLstEn (K : PySem.W.Frag) (k0 : Int) (te : TE) : TE := fun σ H Q => te σ H fun v H1 => ∃ (a : Addr) (xs : List V) (Pv : Nat → Hp → List V → Prop), v = .ref a ∧ SqT K H1 a xs ∧ Pv 0 H1 [] ∧
  (∀ (i : Nat) H vs x T, Pv i H vs → xs[i]? = some x → H T = none → Pv (i + 1) (upd H T (.tup [.int (k0 + (i : Int)), x])) (vs ++ [.ref T])) ∧ ∀ H vs q, Pv xs.length H vs → H q = none → Q (.ref q) (upd H q (.lst vs))
theorem pe_lstEn {X : Cx} {e : Expr} {te : TE} {p p2 pos pos2 kp cp : Pos} {j} {k0 : Int} (hk0 : -(2 ^ 63) ≤ k0) (hk1 : k0 < 2 ^ 63) (hc : X.calm = true) (hg : Gl X "list") (hm : X.mg "list" = none) (hg2 : Gl X "enumerate") (hm2 : X.mg "enumerate" = none) (he : PE X e te) (hs : starEach [e] X.env = (false, eval e X.env) :: starEach [] X.env := by rfl)
    (hs2 : starEach [.Call (.Name "enumerate" p2) [e] [⟨some "start", .Constant (.int k0) j cp, kp⟩] pos2] X.env = (false, eval (.Call (.Name "enumerate" p2) [e] [⟨some "start", .Constant (.int k0) j cp, kp⟩] pos2) X.env) :: starEach [] X.env := by rfl) :
    PE X (.Call (.Name "list" p) [.Call (.Name "enumerate" p2) [e] [⟨some "start", .Constant (.int k0) j cp, kp⟩] pos2] [] pos) (tLstEn X.K k0 te) := by
  refine ⟨fun pins s σ H Q I h => ?_⟩; have hk : PK X [⟨some "start", .Constant (.int k0) j cp, kp⟩] (tCons (tC (.int k0)) tNil) := pk_cons pe_int pk_nil
  refine Call_ (ld_blt I hg hm boot_list (PyProof.Rows.callWith_type1 (args_cons (wpAny_Call_Name_kw (ld_blt I hg2 hm2 PyProof.Rows.boot_enumerate (callWith_typeKw (args_cons (thn (he.run pins s σ H _ I h) fun u s1 ⟨v, H1, I1, r1, q1⟩ => args_nil ?_) hs) (by rw [hs]; rfl)))) hs2) hs2 rfl))
  obtain ⟨a, xs, Pv, ev, hq, h0, step, fin⟩ := q1
  subst ev
  obtain rfl : u = Value.ref a := r1; refine thn (hk.run pos2 pins s1 σ H1 (fun zs H2 => zs = [.int k0] ∧ H2 = H1) I1 ⟨rfl, rfl⟩) fun ws s2 ⟨zs, H2, I2, r2, ez, eh⟩ => ?_
  subst ez eh
  obtain ⟨wk, rfl, tk0, rfl⟩ : ∃ wk, ws = [wk] ∧ ∃ t, wk = Value.int k0 t := by
    cases r2 with
    | cons r rr => cases rr; exact ⟨_, rfl, r⟩
  obtain ⟨its, rv, p', hz⟩ := I2.tuple hq
  have hlen := rv.length
  have htup : s2.heap.IsTuple a its.toArray := p'
  show wpAny _ _ (call (.type "enumerate") [.ref a] [(Str.ofString "start", .int k0 tk0)]) _ _ s2
  refine enum_begins_start (begins_tuple a its.toArray) htup hk0 hk1 fun h' hen hit hsz hk' => args_nil ?_
  have hsz1 : s2.heap.objs.size < h'.objs.size := by omega
  have hsz2 : s2.heap.objs.size + 1 < h'.objs.size := by omega
  have I3 : L2.Inv X pins σ H2 { s2 with heap := h' } := I2.kept (t' := s2.toks) hk'
  have hE : EnAny h' (s2.heap.objs.size + 1) s2.heap.objs.size k0 := .inl ⟨_, hen⟩
  have hal : a < s2.heap.objs.size := by obtain ⟨o, ho, _⟩ := id htup; exact Heap.lt_size ho
  have fe := I2.fpOk (H' := H2) (b := s2.heap.objs.size + 1) (Nat.le_succ _) (I2.hok.fresh (Nat.le_succ _))
  have fi := I2.fpOk (H' := H2) (b := s2.heap.objs.size) (Nat.le_refl _) (I2.hok.fresh (Nat.le_refl _))
  have hn : H2 h'.objs.size = none := I3.hok.fresh (Nat.le_refl _)
  refine own_begin (T := "enumerate") (s := { s2 with heap := h' }) (fun h2 k2 => ⟨_, k2 _ _ hen, rfl⟩) (by decide) (by decide) (fun A E Q h2 k2 q => wpAny_pyIter_enum (s := { s2 with heap := h2 }) (k2 _ _ hen) q)
    (fun A E Q h2 k2 q => hint_en (s := { s2 with heap := h2 }) ⟨_, k2 _ _ hen, rfl⟩ (q true s2.toks (Nat.le_refl _))) (by show s2.heap.objs.size + 1 < h'.objs.size; omega) fun h2 tk c k2 hS => ?_
  have hS : h2.get? h'.objs.size = some { cls := .type "list", data := .seq #[] c } := hS
  have I4 : L2.Inv X pins σ (upd H2 h'.objs.size (.lst [])) { s2 with heap := h2, toks := tk } := I3.laid (t' := tk) k2 (Nat.le_refl _) ⟨Nat.zero_le _, [], c, .nil, hS⟩
  refine en_loop (X := X) (pins := pins) (σ := σ) (e := s2.heap.objs.size + 1) (it := s2.heap.objs.size) (a := a) (S := h'.objs.size) (k0 := k0) (xs := xs) (its := its) (Pv := Pv) (show X.A.in1.handled = none from I2.ok.hd hc) rv hz (Nat.succ_ne_self _) (Nat.ne_of_gt (Nat.lt_succ_of_lt hal)) (Nat.ne_of_lt hal) (Nat.ne_of_gt hsz2) (Nat.ne_of_gt hsz1) (Nat.ne_of_gt (Nat.lt_trans hal hsz1)) step
    (fun H vs s3 I5 hn5 hp => ⟨rfl, .ref h'.objs.size, _, I5, rfl, fin H vs _ (by rw [hlen, ← List.size_toArray]; exact hp) hn5⟩) its.toArray.size 0 _ H2 [] (by omega) (Nat.zero_le _) I4 hn ⟨?_, fe.2⟩ ⟨?_, fi.2⟩ h0 rfl (by rw [show k0 + ((0 : Nat) : Int) = k0 by omega]; exact .inl ⟨_, k2 _ _ hen⟩) ⟨_, k2 _ _ hit, rfl, rfl⟩ ?_
  · rw [upd_ne (Nat.ne_of_lt hsz2)]; exact fe.1
  · rw [upd_ne (Nat.ne_of_lt hsz1)]; exact fi.1
  · obtain ⟨o, ho, r⟩ := htup
    exact ⟨o, k2 _ _ (hk' _ _ ho), r⟩

def gLstEn (k0 : Int) (d : D) (S : Sto) : Res D := match tupV d with
  | some xs => .ok (.ref S.nx) (S.new (.lst (numD k0 xs)))
  | none => .bad
def dLstEn (k0 : Int) (fa : DE) : DE := fun Γ S => (fa Γ S).bind (gLstEn k0)
theorem numD_take : ∀ (xs : List D) (k : Int) (i : Nat) (x : D), xs[i]? = some x → numD k (xs.take (i + 1)) = numD k (xs.take i) ++ [.tup [.int (k + (i : Int)), x]]
  | [], k, i, x, h => by simp at h
  | y :: r, k, 0, x, h => by
    have h : some y = some x := h
    cases h
    show [D.tup [.int k, y]] = [] ++ [D.tup [.int (k + ((0 : Nat) : Int)), y]]
    rw [show k + ((0 : Nat) : Int) = k by omega]; rfl
  | y :: r, k, i + 1, x, h => by
    show D.tup [.int k, y] :: numD (k + 1) (r.take (i + 1)) = (D.tup [.int k, y] :: numD (k + 1) (r.take i)) ++ _
    rw [numD_take r (k + 1) i x h, show k + 1 + (i : Int) = k + ((i + 1 : Nat) : Int) by omega]; rfl
theorem xlstEn {X : Cx} {C : Cfg} {W : XK} {e : Expr} {fa : DE} {p p2 pos pos2 kp cp : Pos} {j} {k0 : Int} (hk : (decide (-(2 ^ 63) ≤ k0) && decide (k0 < 2 ^ 63)) = true) (hK : X.K = C.K) (hc : X.calm = true) (hg : Gl X "list") (hm : X.mg "list" = none) (hg2 : Gl X "enumerate") (hm2 : X.mg "enumerate" = none) (he : PE X e (tE C W fa)) (hs : starEach [e] X.env = (false, eval e X.env) :: starEach [] X.env := by rfl)
    (hs2 : starEach [.Call (.Name "enumerate" p2) [e] [⟨some "start", .Constant (.int k0) j cp, kp⟩] pos2] X.env = (false, eval (.Call (.Name "enumerate" p2) [e] [⟨some "start", .Constant (.int k0) j cp, kp⟩] pos2) X.env) :: starEach [] X.env := by rfl) :
    PE X (.Call (.Name "list" p) [.Call (.Name "enumerate" p2) [e] [⟨some "start", .Constant (.int k0) j cp, kp⟩] pos2] [] pos) (tE C W (dLstEn k0 fa)) :=
  (pe_lstEn (of_decide_eq_true (Bool.and_eq_true_iff.mp hk).1) (of_decide_eq_true (Bool.and_eq_true_iff.mp hk).2) hc hg hm hg2 hm2 he hs hs2).by fun σ H Q ⟨M, Γ, S, g, s, h⟩ => run1 g s h fun M1 d S1 x H1 l1 s1 r1 h1 => by
    unfold gLstEn at h1
    split at h1
    · rename_i ys e1
      obtain ⟨a, us, rfl, ha, rl⟩ := tup_of s1 r1 e1
      refine ⟨a, us, fun i H2 vs => ∃ M', M1.le M' ∧ Sim C M' S1 H2 ∧ RepL C M' (numD k0 (ys.take i)) vs, rfl, hK ▸ ha, ⟨M1, .refl M1, s1, .nil⟩, fun i H2 vs x T ⟨M', l, s2, r⟩ hx hT => ?_, fun H2 vs q ⟨M', l, s2, r⟩ hq => ?_⟩
      · have hi : i < ys.length := by rw [rl.1]; exact (List.getElem?_eq_some_iff.mp hx).1
        have rx := rl.2 i _ _ (List.getElem?_eq_getElem hi) hx
        have lp : M'.le (M'.lay T (.tup [.int (k0 + (i : Int)), x])) := Wd.lay_le (s2.free hT)
        refine ⟨_, l.trans lp, s2.lay hT, ?_⟩
        rw [numD_take ys k0 i _ (List.getElem?_eq_getElem hi)]
        have rl2 : RepL C (M'.lay T (.tup [.int (k0 + (i : Int)), x])) [.int (k0 + (i : Int)), ys[i]] [.int (k0 + (i : Int)), x] := .cons (.int _) (.cons (rx.mono (l.trans lp)) .nil)
        exact (r.mono lp).append (.cons (.tup (show upd M'.fz T _ T = _ from upd_same) rl2.1 rl2.2) .nil)
      · have e2 : ys.take us.length = ys := by rw [← rl.1, List.take_length]
        rw [e2] at r
        exact newSto (h1.mono l) s2 ⟨_, rfl, r⟩ hq
    · exact h1.elim
end Pd

/-! tuple(sorted(set(x))), x a list of ints -/
namespace Pd
open L2 PySem PySem.Spec PyProof.Rows

abbrev frSet (w : World) : Obj := { cls := .type "set", dict := none, data := .set #[] 0 (.fresh 0 0 (!w.params.followText "set-order")) }
section
variable {P : Program} {w : World} {s : Shared} {A : Around} {E : Value → Shared → Prop}
/-- set(xs), xs a list of ints -/
theorem set_listI {l : Addr} {its : Array Value} (ns : List Int) {Q : Value → Shared → Prop} (hh : A.handled = none) (hl : s.heap.IsList l its) (hit : IntsAre its.toList ns) (hb : ns.length + 1 < scanBound) (h : ∀ (h' : Heap) (tk c : Nat), SetR w h' s.heap.objs.size (fun j => decide (j ∈ ns)) c → c ≤ ns.length → (∀ b o, s.heap.get? b = some o → h'.get? b = some o) → Q (.ref s.heap.objs.size) { s with heap := h', toks := tk }) : wpAny (model P w) A (call (.type "set") [.ref l]) Q E s := by
  have sz : its.size = ns.length := by rw [← Array.length_toList]; exact IntsAre.length hit
  obtain ⟨c, tl, hmro⟩ := F.called_set.mro; have hmade := F.called_set.made
  have hsub := F.called_set.sub
  refine wpAny_call (codeAny_of_tree ?_); show wpAny _ _ (callAny (.type "set") _) _ _ _
  refine wpAny_pure ⟨Code.quiet_builtin _ (by decide +kernel), codeAny_builtin F.entry_type_call ?_⟩; rw [Around.under_plain (weight_type_call_type "set" [.ref l] []) rfl]
  have h1 := F.called_set.notType; have h2 := F.called_set.canCreate
  have hct := (F.typeCall_set_1 (.ref l))
  repeat (any_goals (first | assumption | (wp_step)))
  refine codeAny_mono (code_set_led1 (.ref l) (E := E) (Q₁ := fun obj s1 => obj = .ref s.heap.objs.size ∧ s1 = { s with heap := s.heap.push (frSet w) }) ⟨rfl, rfl⟩) fun r s1 hr => ?_
  cases r with
  | error e => exact hr
  | ok fl =>
    cases fl with
    | ret obj =>
      obtain ⟨rfl, rfl⟩ := hr
      have hS : (s.heap.push (frSet w)).get? s.heap.objs.size = some (frSet w) := Heap.get?_push_size _ rfl
      have hT : Shared.TypeIs { s with heap := s.heap.push (frSet w) } (.ref s.heap.objs.size) "set" := ⟨_, hS, rfl⟩
      have hli := F.called_set.init.lookup; have hbi := F.called_set.init.bind (.ref s.heap.objs.size)
      repeat (any_goals (first | assumption | (wp_step)))
      refine codeAny_mono (codeAny_call_builtin (R := wants (fun r s2 => r = .none ∧ ∃ h' tk c, s2 = { s with heap := h', toks := tk } ∧ SetR w h' s.heap.objs.size (fun j => decide (j ∈ ns)) c ∧ c ≤ ns.length ∧
          ∀ b o, s.heap.get? b = some o → h'.get? b = some o) E) F.called_set.init.plain F.entry_set_init (check_set_init_1 hT ?_)) fun r2 s2 hr2 => ?_
      · obtain ⟨ol, hol, hcl, nl, hdl⟩ := (hl)
        obtain ⟨ocls, odict, odata, oslots⟩ := ol; simp only at hcl hdl
        subst hcl; subst hdl
        have hol' : (s.heap.push (frSet w)).get? l = some { cls := .type "list", dict := odict, data := .seq its nl, slots := oslots } := Heap.get?_push_of_some _ hol
        have hsls := F.sub_list_set
        have hslf := F.sub_list_frozenset; have hne : (Value.type "list" == Value.type "dict") = false := by decide
        have hl1 : (s.heap.push (frSet w)).IsList l its := ⟨_, hol', rfl, nl, rfl⟩
        (unfold Builtin.«set.__init__» noKeywords Builtin.Frozenset.updateFrom)
        generalize hPI : pyIter = PI
        wp_walk
        subst hPI
        refine wpAny_pyIter_list hl1 (wpAny_bind (wpAny_runValue ?_))
        have hlS : l < s.heap.objs.size := Heap.lt_size hol; have hh3 : A.in1.in1.in1.handled = none := by simp [hh]
        have hz : (s.heap.push (frSet w)).objs.size = s.heap.objs.size + 1 := Heap.size_push ..
        have hneI : l ≠ (s.heap.push (frSet w)).objs.size := by rw [hz]; exact Nat.ne_of_lt (Nat.lt_succ_of_lt hlS)
        have hSf : s.heap.objs.size ∉ [(s.heap.push (frSet w)).objs.size, l] := by
          rw [hz]; simp only [List.mem_cons, List.mem_singleton, List.not_mem_nil, or_false, not_or]
          exact (⟨Nat.ne_of_lt (Nat.lt_succ_self _), Nat.ne_of_gt hlS⟩)
        have hval : ∀ (i : Nat) (v : Value), its[i]? = some v → ∃ k t, ns[i]? = some k ∧ v = .int k t := fun i v hv => by
          have hi : i < ns.length := by rw [← sz]; exact (Array.getElem?_eq_some_iff.mp hv).1
          obtain ⟨t, e⟩ := PyProof.Rows.IntsAre.int_at hit i v (by rw [Array.getElem?_toList]; exact hv); exact ⟨ns[i], t, List.getElem?_eq_getElem hi, by rw [e, List.getD_eq_getElem?_getD, List.getElem?_eq_getElem hi] <;> rfl⟩
        have h0 : ((s.heap.push (frSet w)).push { cls := .type "list_iterator", data := .fields #[.ref l, .int 0 0] }).get? s.heap.objs.size = some (frSet w) := Heap.get?_push_of_some _ hS
        refine set_update_ints ((Walks.list hh3 _ l hneI its).toS) s.heap.objs.size hSf ns sz hb hval (its.size - 0) 0 _ (by omega) (Nat.zero_le _) ⟨⟨_, Heap.get?_push_size _ rfl, rfl, rfl⟩, (hl1.push _)⟩ ⟨0, Nat.le_refl 0, setR_new_at h0⟩ ?_
        intro s' c' hm hc' hS'
        obtain ⟨h', g2, d', tk', os'⟩ := s'; have eg : g2 = s.gens := hm.gens
        have ed : d' = s.drawn := hm.drawn; have eo : os' = s.os := hm.os
        subst eg; subst ed; subst eo
        show wpAny _ _ _ _ _ _
        refine wpAny_pure ?_
        show wpAny _ _ (ret Value.none) _ _ _; rw [sz] at hc'
        refine wpAny_pure ⟨rfl, h', tk', c', rfl, hS', hc', fun b o e => ?_⟩; have hb0 : b < s.heap.objs.size := Heap.lt_size e
        refine hm.heap b o ?_ (Heap.get?_push_of_some _ (Heap.get?_push_of_some _ e))
        simp only [List.mem_cons, List.mem_singleton, List.not_mem_nil, or_false, not_or]
        exact ⟨Nat.ne_of_lt hb0, by rw [hz]; exact Nat.ne_of_lt (Nat.lt_succ_of_lt hb0)⟩
      · cases r2 with
        | error e => exact hr2
        | ok fl2 =>
          cases fl2 with
          | ret r =>
            obtain ⟨rfl, h', tk, c', rfl, hS', hc', hk'⟩ := hr2
            repeat (any_goals (first | assumption | (wp_step)))
            exact h _ _ _ hS' hc' hk'
          | _ => exact hr2.elim
    | _ => exact hr.elim
end
end Pd

/-! tuple(sorted(set(x))), x a list of ints: the rule by data -/
namespace Pd
open L2 PySem PySem.Spec PyProof.Rows

section
variable {X : Cx} {C : Cfg} {W : XK}
def rSetL (K : PySem.W.Frag) (w : World) : List V → Hp → VK → Prop := fun xs H Q => ∃ (l : Addr) (ns : List Int), xs = [.ref l] ∧ SqL K H l (ns.map V.int) ∧ ns.length < 64 ∧ ∀ p c, H p = none → c ≤ ns.length → Q (.ref p) (upd H p (SetO w p (fun j => decide (j ∈ ns)) c))
theorem cr_setL (hc : X.calm = true) : CallR X (.type "set") (rSetL X.K X.w) := by
  intro pins s σ H vs us Q I r h; obtain ⟨l, ns, rfl, hs, h64, q⟩ := h
  rw [Vals.ref1 r]
  obtain ⟨its, rv, pl, hz⟩ := I.list hs; refine set_listI ns (I.ok.hd hc) pl.isList (by simpa using ints_of_vals rv) (by unfold scanBound; omega) fun h' tk c R hle hk => ?_
  exact ⟨.ref s.heap.objs.size, _, I.laid (t' := tk) hk (Nat.le_refl _) (setO_new R), rfl, q _ c (I.hok.fresh (Nat.le_refl _)) hle⟩
theorem Sim.beside {M : Wd} {S : Sto} {H : Hp} (s : Sim C M S H) {a : Addr} {o : HO} (h : H a = none) : Sim C M S (upd H a o) := by
  refine ⟨fun b u e => ?_, fun n m e => ?_, s.inj, s.nx, fun b ob u e => ?_, fun b u e => ?_⟩
  · have hb : ¬ b = a := fun z => by
      rw [z, s.free h] at e; cases e
    rcases s.fr b u e with q | ⟨d, ob, q⟩
    · exact .inl (by rw [upd_ne hb]; exact q)
    · exact .inr ⟨d, ob, by rw [upd_ne hb]; exact q⟩
  · obtain ⟨b, u, h1, h2, h3, h4⟩ := s.al n m e
    have hb : ¬ b = a := fun z => by
      rw [z, h] at h2; cases h2
    exact ⟨b, u, h1, by rw [upd_ne hb]; exact h2, h3, h4⟩
  · have q := s.lk b ob u e
    have hb : ¬ b = a := fun z => by
      rw [z, h] at q; cases q
    rw [upd_ne hb]; exact q
  · obtain ⟨k1, k2, k3, k4⟩ := s.kp b u e
    have hb : ¬ b = a := fun z => by
      rw [z, h] at k1; cases k1
    exact ⟨by rw [upd_ne hb]; exact k1, k2, k3, k4⟩
end
/-- put into an ascending list -/
def insI (k : Int) : List Int → List Int
  | [] => [k]
  | x :: r => (match ltB k x with
    | true => k :: x :: r
    | false => (match eqB k x with
      | true => x :: r
      | false => x :: insI k r))
def sortI : List Int → List Int
  | [] => []
  | k :: r => insI k (sortI r)
theorem insI_mem (k : Int) : ∀ (l : List Int) (j : Int), j ∈ insI k l ↔ j = k ∨ j ∈ l
  | [], j => by simp [insI]
  | x :: r, j => by
    unfold insI
    rw [ltB_eq, eqB_eq]
    by_cases h1 : k < x
    · simp [h1]
    · by_cases h2 : k = x
      · subst h2; simp [h1]
      · simp [h1, h2, insI_mem k r j]
        constructor
        · rintro (h | h | h) <;> simp [h]
        · rintro (h | h | h) <;> simp [h]
theorem insI_asc (k : Int) : ∀ (l : List Int), l.Pairwise (· < ·) → (insI k l).Pairwise (· < ·)
  | [], _ => by simp [insI]
  | x :: r, h => by
    obtain ⟨h1, h2⟩ := (List.pairwise_cons.mp h)
    unfold insI
    rw [ltB_eq, eqB_eq]
    by_cases h3 : k < x
    · simp only [h3, decide_true]
      refine List.pairwise_cons.mpr ⟨fun y hy => ?_, h⟩
      rcases (List.mem_cons.mp hy) with rfl | hy
      · exact h3
      · exact Int.lt_trans h3 (h1 y hy)
    · by_cases h4 : k = x
      · subst h4; simp only [h3, decide_false, decide_true]; exact h
      · simp only [h3, h4, decide_false]
        refine List.pairwise_cons.mpr ⟨fun y hy => ?_, insI_asc k r h2⟩
        rcases (insI_mem k r y).mp hy with rfl | hy
        · omega
        · exact h1 y hy
theorem sortI_mem : ∀ (l : List Int) (j : Int), j ∈ sortI l ↔ j ∈ l
  | [], j => by simp [sortI]
  | k :: r, j => by unfold sortI; rw [insI_mem, sortI_mem r j]; simp
theorem sortI_asc : ∀ (l : List Int), (sortI l).Pairwise (· < ·)
  | [] => .nil
  | k :: r => insI_asc k _ (sortI_asc r)
theorem asc_eq : ∀ (l m : List Int), l.Pairwise (· < ·) → m.Pairwise (· < ·) → (∀ k, k ∈ l ↔ k ∈ m) → l = m
  | [], [], _, _, _ => rfl
  | [], y :: m, _, _, h => absurd ((h y).mpr List.mem_cons_self) (by simp)
  | x :: l, [], _, _, h => absurd ((h x).mp List.mem_cons_self) (by simp)
  | (x :: l), (y :: m), hl, hm, h => by
    obtain ⟨a1, a2⟩ := List.pairwise_cons.mp hl
    obtain ⟨b1, b2⟩ := List.pairwise_cons.mp hm
    have e : x = y := by
      rcases List.mem_cons.mp ((h x).mp List.mem_cons_self) with q | q
      · exact q
      · rcases List.mem_cons.mp ((h y).mpr List.mem_cons_self) with z | z
        · exact z.symm
        · have := b1 x q
          have := a1 y z
          omega
    subst e
    rw [asc_eq l m a2 b2 fun k => ?_]
    constructor
    · intro hk
      rcases List.mem_cons.mp ((h k).mp (List.mem_cons_of_mem _ hk)) with z | z
      · have := a1 k hk; omega
      · exact z
    · intro hk
      rcases List.mem_cons.mp ((h k).mpr (List.mem_cons_of_mem _ hk)) with z | z
      · have := b1 k hk; omega
      · exact z
def intsD : List D → Option (List Int)
  | [] => some []
  | .int i :: r => (match intsD r with
    | some l => some (i :: l)
    | none => none)
  | _ => none
def tupI : List Int → List D
  | [] => []
  | i :: r => .int i :: tupI r
def gTSS (d : D) (S : Sto) : Res D := match lstV S d with
  | some xs => (match intsD xs with
    | some ns => (match Nat.blt ns.length 64 with
      | true => .ok (.tup (tupI (sortI ns))) S
      | false => .bad)
    | none => .bad)
  | none => .bad
def dTSS (fa : DE) : DE := fun Γ S => (fa Γ S).bind gTSS
section
variable {X : Cx} {C : Cfg} {W : XK}
theorem intsD_of {M : Wd} : ∀ {ds : List D} {vs : List V} {ns : List Int}, RepL C M ds vs → intsD ds = some ns → vs = ns.map V.int
  | [], _, _, r, h => by cases h; exact r.nil_inv
  | d :: ds, _, ns, r, h => by
    obtain ⟨v, us, rfl, h1, h2⟩ := r.cons_inv
    unfold intsD at h
    split at h
    · rename_i e; cases e
    · rename_i b r' e
      cases e
      split at h
      · rename_i ms e2
        cases h
        cases h1
        rw [intsD_of h2 e2]; rfl
      · cases h
    · cases h
theorem tupI_of {M : Wd} : ∀ ns : List Int, RepL C M (tupI ns) (ns.map V.int)
  | [] => .nil
  | i :: r => .cons (.int i) (tupI_of r)
theorem xTSS {e : Expr} {fa : DE} {p1 p2 p3 pos1 pos2 pos3 : Pos} (hK : X.K = C.K) (hc : X.calm = true) (hg1 : Gl X "tuple") (hm1 : X.mg "tuple" = none) (hg2 : Gl X "sorted") (hm2 : X.mg "sorted" = none) (hg3 : Gl X "set") (hm3 : X.mg "set" = none) (he : PE X e (tE C W fa)) (hs : starEach [e] X.env = (false, eval e X.env) :: starEach [] X.env := by rfl)
    (hs2 : starEach [.Call (.Name "set" p3) [e] [] pos3] X.env = (false, eval (.Call (.Name "set" p3) [e] [] pos3) X.env) :: starEach [] X.env := by rfl)
    (hs3 : starEach [.Call (.Name "sorted" p2) [.Call (.Name "set" p3) [e] [] pos3] [] pos2] X.env = (false, eval (.Call (.Name "sorted" p2) [.Call (.Name "set" p3) [e] [] pos3] [] pos2) X.env) :: starEach [] X.env := by rfl) :
    PE X (.Call (.Name "tuple" p1) [.Call (.Name "sorted" p2) [.Call (.Name "set" p3) [e] [] pos3] [] pos2] [] pos1) (tE C W (dTSS fa)) :=
  (pe_callTy call_tuple_of hg1 hm1 PyProof.Rows.boot_tuple (pa_cons (pe_callB (cr_sortedSet hc) hg2 hm2 PyProof.Rows.boot_sorted (pa_cons (pe_callTy (cr_setL hc) hg3 hm3 PyProof.Rows.boot_set (pa_cons he pa_nil hs) (he := hs) (hpl := rfl)) pa_nil hs2) (he := hs2) (hpl := rfl)) pa_nil hs3) (he := hs3) (hpl := rfl)).by fun σ H Q ⟨M, Γ, S, g, s, h⟩ => run1 g s h fun M1 d S1 x H1 l1 s1 r1 h1 => by
    unfold gTSS at h1
    split at h1
    · rename_i ys e1
      split at h1
      · rename_i ns e2
        split at h1
        · rename_i e3
          obtain ⟨a, us, rfl, ha, rl⟩ := lst_of s1 r1 e1
          have := intsD_of rl e2
          subst this
          have h64 : ns.length < 64 := Nat.le_of_ble_eq_true e3
          refine ⟨a, ns, rfl, hK ▸ ha, h64, fun p c hp hle => ⟨p, _, c, rfl, upd_same, by omega, fun ms q hs1 hs2 hlen hq => ⟨q, ms.map V.int, rfl, .inl ⟨?_, fun t ht => ?_⟩⟩⟩⟩
          · exact .inl (.inl upd_same)
          · have e4 : ms = sortI ns := asc_eq _ _ hs1 (sortI_asc ns) fun k => by rw [hs2 k, sortI_mem]; simp
            subst e4
            exact newTup h1 ((s1.beside hp).beside hq) (tupI_of _) ht
        · exact h1.elim
      · exact h1.elim
    · exact h1.elim
end
end Pd

/-! dict(zip(x, y)) of two lists, the keys ints and texts, each once -/
namespace Pd
open L2 PySem PySem.Spec PyProof.Rows

def keysO : List D → Option (List Key)
  | [] => some []
  | d :: r => (match keyOf d with
    | some k => (match keysO r with
      | some ks => some (k :: ks)
      | none => none)
    | none => none)
def newK (k : Key) : List Key → Bool
  | [] => true
  | j :: r => (match eqK k j with
    | true => false
    | false => newK k r)
def uniqK : List Key → Bool
  | [] => true
  | k :: r => (match newK k r with
    | true => uniqK r
    | false => false)
theorem newK_ok (k : Key) : ∀ l, newK k l = true → k ∉ l
  | [], _ => by simp
  | j :: r, h => by
    unfold newK at h
    split at h
    · cases h
    · rename_i e
      have hne : k ≠ j := fun z => by
        rw [(eqK_iff k j).mpr z] at e; cases e
      simp [hne, newK_ok k r h]
theorem uniqK_ok : ∀ l, uniqK l = true → l.Nodup
  | [], _ => .nil
  | k :: r, h => by
    unfold uniqK at h
    split at h
    · rename_i e
      exact List.nodup_cons.mpr ⟨newK_ok k r e, uniqK_ok r h⟩
    · cases h
def zipK {α : Type} : List Key → List α → List (Key × α)
  | k :: ks, x :: xs => (k, x) :: zipK ks xs
  | _, _ => []
theorem zipK_get {α : Type} : ∀ (ks : List Key) (xs : List α) (i : Nat) (k : Key) (x : α), ks[i]? = some k → xs[i]? = some x → (zipK ks xs)[i]? = some (k, x)
  | [], _, i, k, x, h, _ => by simp at h
  | _ :: _, [], i, k, x, _, h => by simp at h
  | a :: ks, b :: xs, 0, k, x, h, h2 => by
    have h : some a = some k := h
    have h2 : some b = some x := h2
    cases h; cases h2; rfl
  | a :: ks, b :: xs, i + 1, k, x, h, h2 => zipK_get ks xs i k x h h2
theorem zipK_inv {α : Type} : ∀ (ks : List Key) (xs : List α) (i : Nat) (k : Key) (x : α), (zipK ks xs)[i]? = some (k, x) → ks[i]? = some k ∧ xs[i]? = some x
  | [], _, i, k, x, h => by simp [zipK] at h
  | _ :: _, [], i, k, x, h => by simp [zipK] at h
  | a :: ks, b :: xs, 0, k, x, h => by
    have h : some (a, b) = some (k, x) := h
    cases h; exact ⟨rfl, rfl⟩
  | a :: ks, b :: xs, i + 1, k, x, h => zipK_inv ks xs i k x h
theorem zipK_len {α : Type} : ∀ (ks : List Key) (xs : List α), (zipK ks xs).length = min ks.length xs.length
  | [], _ => by simp [zipK]
  | _ :: _, [] => by simp [zipK]
  | a :: ks, b :: xs => by
    show (zipK ks xs).length + 1 = _
    rw [zipK_len ks xs]; simp only [List.length_cons]; omega
theorem zipK_keys {α β : Type} : ∀ (ks : List Key) (xs : List α) (ys : List β), xs.length = ys.length → (zipK ks xs).map (·.1) = (zipK ks ys).map (·.1)
  | [], _, _, _ => by simp [zipK]
  | _ :: _, [], [], _ => rfl
  | _ :: _, [], _ :: _, h => by simp at h
  | _ :: _, _ :: _, [], h => by simp at h
  | k :: ks, x :: xs, y :: ys, h => by
    show k :: (zipK ks xs).map (·.1) = k :: (zipK ks ys).map (·.1)
    rw [zipK_keys ks xs ys (by simpa using h)]
theorem zipK_sub {α : Type} : ∀ (ks : List Key) (xs : List α), ks.Nodup → ((zipK ks xs).map (·.1)).Nodup
  | [], _, _ => by simp [zipK]
  | _ :: _, [], _ => by simp [zipK]
  | k :: ks, x :: xs, h => by
    obtain ⟨h1, h2⟩ := List.nodup_cons.mp h; show (k :: (zipK ks xs).map (·.1)).Nodup
    refine List.nodup_cons.mpr ⟨fun hk => h1 ?_, zipK_sub ks xs h2⟩
    obtain ⟨⟨a, b⟩, hp, e⟩ := List.mem_map.mp hk
    obtain ⟨i, hi⟩ := List.getElem?_of_mem hp
    have := (zipK_inv ks xs i a b hi).1
    exact List.mem_of_getElem? (by rw [this, ← e])
section
variable {X : Cx}
def tDZ (K : PySem.W.Frag) (ta : TA) : TE := fun σ H Q => ta σ H fun vs H1 => ∃ (a b : Addr) (ks : List Key) (ys : List V), vs = [.ref a, .ref b] ∧ SqL K H1 a (ks.map kV) ∧ SqL K H1 b ys ∧ ks.Nodup ∧ ∀ q, H1 q = none → Q (.ref q) (upd H1 q (.dK (zipK ks ys)))
theorem pe_dictZip {e e2 : Expr} {ta : TA} {p p2 pos pos2 : Pos} (hc : X.calm = true) (hg : Gl X "dict") (hm : X.mg "dict" = none) (hg2 : Gl X "zip") (hm2 : X.mg "zip" = none) (ha : PA X [e, e2] ta)
    (hs : starEach [e, e2] X.env = (false, eval e X.env) :: starEach [e2] X.env := by rfl) (hpl : (backTo pos2 (starEach [e2] X.env)).any (·.1) = false := by rfl)
    (hs2 : starEach [.Call (.Name "zip" p2) [e, e2] [] pos2] X.env = (false, eval (.Call (.Name "zip" p2) [e, e2] [] pos2) X.env) :: starEach [] X.env := by rfl) :
    PE X (.Call (.Name "dict" p) [.Call (.Name "zip" p2) [e, e2] [] pos2] [] pos) (tDZ X.K ta) := by
  refine ⟨fun pins s σ H Q I h => ?_⟩; refine Call_ (ld_blt I hg hm boot_dict (PyProof.Rows.callWith_type1 (args_cons (Call_ (ld_blt I hg2 hm2 PyProof.Rows.boot_zip (PyProof.Rows.callWith_type1 (thn (ha.run pos2 pins s σ H _ I h) fun us s1 ⟨vs, H1, I1, r1, q1⟩ => ?_) hs hpl))) hs2) hs2 rfl))
  obtain ⟨a, b, ks, ys, rfl, hqx, hqy, nd, q⟩ := q1
  obtain ⟨u1, u2, rfl, w1, w2⟩ := Vals.two r1
  cases w1
  cases w2
  obtain ⟨its, rv, p1, hz1⟩ := I1.list hqx
  obtain ⟨its2, rv2, p2', hz2⟩ := I1.list hqy
  have la : a < s1.heap.objs.size := p1.lt; have lb : b < s1.heap.objs.size := p2'.lt
  refine call_zip_2 p1.isList p2'.isList fun h' hz hTI hTO h1 h2 hsz hk => args_nil ?_
  have I2 : L2.Inv X pins σ H1 { s1 with heap := h' } := I1.kept (t' := s1.toks) hk
  have l1 : its.length = ks.length := by rw [← rv.length, List.length_map]
  have l2 : its2.length = ys.length := rv2.length.symm
  have have_ : PairsHave (mixKind X.prog X.w) (min its.toArray.size its2.toArray.size) (fun i k v => its.toArray[i]? = some k ∧ its2.toArray[i]? = some v) (zipK ks its2) := by
    refine ⟨by rw [zipK_len, List.size_toArray, List.size_toArray, l1], fun i key v hh => ?_⟩
    obtain ⟨g1, g2⟩ := hh
    rw [List.getElem?_toArray] at g1 g2
    have hi : i < ks.length := by rw [← l1]; exact (List.getElem?_eq_some_iff.mp g1).1
    obtain ⟨u, hu, ru⟩ := rv.get (show (ks.map kV)[i]? = some (kV ks[i]) by rw [List.getElem?_map, List.getElem?_eq_getElem hi]; rfl)
    rw [g1] at hu; cases hu
    refine ⟨ks[i], zipK_get ks its2 i _ _ (List.getElem?_eq_getElem hi) g2, ?_⟩
    show keyIs ks[i] key = true
    cases hk : ks[i] with
    | inl n =>
      rw [hk] at ru
      obtain ⟨t, rfl⟩ := ru
      simp [keyIs, Value.isInt]
    | inr x =>
      rw [hk] at ru
      obtain ⟨t, rfl⟩ := ru
      simp [keyIs, Value.isStrOf]
  have few : min its.toArray.size its2.toArray.size ≤ sizeLine := by
    rw [List.size_toArray, List.size_toArray, l1]
    rw [List.length_map] at hz1
    omega
  refine PySem.call_dict_pairs (knd := mixKind X.prog X.w) (s := { s1 with heap := h' }) (PairArg.zip (s1.heap.objs.size + 4) (s1.heap.objs.size + 2) (s1.heap.objs.size + 3) s1.heap.objs.size (s1.heap.objs.size + 1) a b (PySem.W.ktu_apart s1.heap.objs.size a b la lb) its.toArray its2.toArray)
    (I1.ok.hd hc) ⟨hz, hTI, ⟨_, _, hTO⟩, h1, h2, p1.isList.at fun o e => hk _ o e, p2'.isList.at fun o e => hk _ o e⟩ have_ few fun h'' tk hd hk2 => ?_
  rw [merged_nil_of_nodup _ (zipK_sub ks its2 nd)] at hd
  have hT : s1.heap.objs.size ≤ h'.objs.size := by rw [hsz]; exact Nat.le_add_right _ _
  have low : (h'.objs.size == sysModules) = false := beq_eq_false_iff_ne.mpr (Nat.ne_of_gt (Nat.lt_of_lt_of_le I1.big hT))
  have kv : KV (zipK ks ys) (zipK ks its2) := by
    clear have_ hd hz1 hqx rv few l1 nd q r1 hqy
    clear hz2 p2' h2
    revert l2 rv2
    generalize its2 = us
    intro rv2 l2
    clear l2
    induction ks generalizing ys us with
    | nil => exact .nil
    | cons k ks ih =>
      cases rv2 with
      | nil => exact .nil
      | cons r rr => exact .cons ⟨rfl, r⟩ (ih _ _ rr)
  have new : ObjOk X.prog X.w (upd H1 h'.objs.size (.dK (zipK ks ys))) h'' h'.objs.size (.dK (zipK ks ys)) :=
    ⟨by rw [zipK_len]; rw [List.size_toArray, List.size_toArray, l1, l2] at few; exact few, low, _, kv, hd⟩
  have I3 := I2.turnedNew (t' := tk) (ch := [s1.heap.objs.size + 4, s1.heap.objs.size + 3, s1.heap.objs.size, s1.heap.objs.size + 1]) (T := h'.objs.size) (fun c o hc e => hk2 c o hc e) (fun c hcm => by
    have e' : c = s1.heap.objs.size + 4 ∨ c = s1.heap.objs.size + 3 ∨ c = s1.heap.objs.size ∨ c = s1.heap.objs.size + 1 := by simpa using hcm
    have hle : (s1.heap.objs.size ≤ c) := by
      rcases e' with z | z | z | z
      · rw [z]; exact (Nat.le_add_right _ _)
      · rw [z]; exact (Nat.le_add_right _ _)
      · rw [z]; exact Nat.le_refl _
      · rw [z]; exact (Nat.le_add_right _ _)
    exact I1.fpOk hle (I1.hok.fresh hle)) (Nat.le_refl _) new
  exact ⟨.ref h'.objs.size, _, I3, rfl, q _ (I2.hok.fresh (Nat.le_refl _))⟩
end
def gDZ : List D → Sto → Res D := fun ds S => match ds with
  | [a, b] => (match lstV S a with
    | some xs => (match lstV S b with
      | some ys => (match keysO xs with
        | some ks => (match uniqK ks with
          | true => .ok (.ref S.nx) (S.new (.dct (zipK ks ys)))
          | false => .bad)
        | none => .bad)
      | none => .bad)
    | none => .bad)
  | _ => .bad
def dDZ (fr : DA) : DE := fun Γ S => (fr Γ S).bind gDZ
section
variable {X : Cx} {C : Cfg} {W : XK}
theorem keysO_of {M : Wd} : ∀ {ds : List D} {vs : List V} {ks : List Key}, RepL C M ds vs → keysO ds = some ks → vs = ks.map kV
  | [], _, _, r, h => by cases h; exact r.nil_inv
  | d :: ds, _, ks, r, h => by
    obtain ⟨v, us, rfl, h1, h2⟩ := r.cons_inv
    unfold keysO at h
    split at h
    · rename_i k e
      split at h
      · rename_i ks' e2
        cases h
        rw [keysO_of h2 e2, keyOf_of h1 e]; rfl
      · cases h
    · cases h
theorem zipK_of {M : Wd} {ks : List Key} {ys : List D} {us : List V} (r : RepL C M ys us) : RepK C M (zipK ks ys) (zipK ks us) :=
  ⟨zipK_keys ks ys us r.1, fun i k d k' v a b => r.2 i d v (zipK_inv ks ys i k d a).2 (zipK_inv ks us i k' v b).2⟩
theorem xdictZip {e e2 : Expr} {fr : DA} {p p2 pos pos2 : Pos} (hK : X.K = C.K) (hc : X.calm = true) (hg : Gl X "dict") (hm : X.mg "dict" = none) (hg2 : Gl X "zip") (hm2 : X.mg "zip" = none) (ha : PA X [e, e2] (tA C W fr))
    (hs : starEach [e, e2] X.env = (false, eval e X.env) :: starEach [e2] X.env := by rfl) (hpl : (backTo pos2 (starEach [e2] X.env)).any (·.1) = false := by rfl)
    (hs2 : starEach [.Call (.Name "zip" p2) [e, e2] [] pos2] X.env = (false, eval (.Call (.Name "zip" p2) [e, e2] [] pos2) X.env) :: starEach [] X.env := by rfl) :
    PE X (.Call (.Name "dict" p) [.Call (.Name "zip" p2) [e, e2] [] pos2] [] pos) (tE C W (dDZ fr)) :=
  (pe_dictZip hc hg hm hg2 hm2 ha hs hpl hs2).by fun σ H Q ⟨M, Γ, S, g, s, h⟩ => runA g s h fun M1 ds S1 xs H1 l1 s1 r1 h1 => by
    unfold gDZ at h1
    split at h1
    · rename_i d1 d2
      obtain ⟨v1, us, rfl, rd1, rt⟩ := r1.cons_inv
      obtain ⟨v2, rfl, rd2⟩ := one_of rt
      split at h1
      · rename_i xs e1
        split at h1
        · rename_i ys e2
          split at h1
          · rename_i ks e3
            split at h1
            · rename_i e4
              obtain ⟨a, ws, rfl, ha', rl⟩ := lst_of s1 rd1 e1
              obtain ⟨b, zs, rfl, hb', rl2⟩ := lst_of s1 rd2 e2
              have := keysO_of rl e3
              subst this
              exact ⟨a, b, ks, zs, rfl, hK ▸ ha', hK ▸ hb', uniqK_ok ks e4, fun q hq => newSto h1 s1 ⟨_, rfl, zipK_of rl2⟩ hq⟩
            · exact h1.elim
          · exact h1.elim
        · exact h1.elim
      · exact h1.elim
    · exact h1.elim
end
end Pd

/-! is of bools; == of dicts whose values are data -/
namespace Pd
open L2 PySem PySem.Spec PyProof.Rows

theorem _root_.L2.Room.units65 {k : Nat} {A : Around} (r : Room k A) : A.units + 65 < cLine := by have := r.un; omega
theorem eqBl_eq (a b : Bool) : eqBl a b = decide (a = b) := by cases a <;> cases b <;> rfl
def isBls : D → D → Sto → Bool := fun a b _ => match a, b with
  | .bl _, .bl _ => true
  | _, _ => false
def fIsB : D → D → Sto → Res D := fun a b S => match a, b with
  | .bl x, .bl y => .ok (.bl (eqBl x y)) S
  | _, _ => .bad
def fIsntB : D → D → Sto → Res D := fun a b S => match a, b with
  | .bl x, .bl y => .ok (.bl (!eqBl x y)) S
  | _, _ => .bad
def fIsX : D → D → Sto → Res D := fun a b S => match isBls a b S with
  | true => fIsB a b S
  | false => fIs a b S
def fIsntX : D → D → Sto → Res D := fun a b S => match isBls a b S with
  | true => fIsntB a b S
  | false => fIsnt a b S
/-- the entries of one dict against another one -/
inductive KH (K : PySem.W.Frag) (H : Hp) (ls : List (Key × V)) : List (Key × V) → Bool → Prop
  | nil : KH K H ls [] true
  | miss {k : Key} {v : V} {r : List (Key × V)} (h : valV ls k = none) : KH K H ls ((k, v) :: r) false
  | hit {k : Key} {v u : V} {r : List (Key × V)} {d e : PyData} {b : Bool} (h : valV ls k = some u) (hd : Dp K H v d) (he : Dp K H u e) (sd : SeqAt.shaped d = true) (se : SeqAt.shaped e = true) (t : KH K H ls r b) : KH K H ls ((k, v) :: r) (PyData.eqv d e && b)
def rDk (K : PySem.W.Frag) (neg : Bool) : R2 := fun x y H Q => ∃ a b ks ls r, x = .ref a ∧ y = .ref b ∧ Rd H a (.dK ks) ∧ Rd H b (.dK ls) ∧ KH K H ls ks r ∧ Q (.bl (if neg then !(ks.length == ls.length && r) else ks.length == ls.length && r)) H
section
variable {X : Cx} {s : Shared} {pins : List (Addr × Obj)} {σ : L2.St} {H : Hp}
theorem KH.run {A : Around} (I : L2.Inv X pins σ H s) (hu : A.units + 64 < cLine) {ls : List (Key × V)} {vb : List (Key × Value)} (rb : KV ls vb) {ks : List (Key × V)} {r : Bool} (h : KH X.K H ls ks r) : ∀ {va : List (Key × Value)}, KV ks va → PySem.W.KeqHits A s vb va r := by
  induction h with
  | nil => intro va ra; cases ra; exact .nil
  | @miss k v r h =>
    intro va ra
    cases ra with
    | @cons p q ps qs h1 t =>
      obtain ⟨e1, e2⟩ := h1
      obtain ⟨k', v'⟩ := q
      have e1 : k = k' := e1
      subst e1
      have rr : RelO none (valueAt vb k) := by rw [← h]; exact rb.val k
      exact .miss rr.none_of
  | @hit k v u r d e b h hd he sd se t ih =>
    intro va ra
    cases ra with
    | @cons p q ps qs h1 t1 =>
      obtain ⟨e1, e2⟩ := h1
      obtain ⟨k', v'⟩ := q
      have e1 : k = k' := e1
      subst e1
      have rr : RelO (some u) (valueAt vb k) := by rw [← h]; exact rb.val k
      obtain ⟨y, hy, ry⟩ := rr.some_of; obtain ⟨as, q1⟩ := Dp.reads I d v v' hd e2
      obtain ⟨bs, q2⟩ := Dp.reads I e u y he ry
      exact .hit hy (SeqAt.eqAt_reads d e A s v' y as bs q1 q2 (SeqAt.canLay_of_shaped sd) (SeqAt.canLay_of_shaped se) (SeqAt.room_of_shaped sd hu)) (ih t1)
end
section
variable {X : Cx}
theorem op_dkEq (hu : X.A.units + 65 < cLine) : OpR X (compareOp .Eq) (rDk X.K false) := by
  intro pins s σ H x y v u Q I rx ry h; obtain ⟨a, b, ks, ls, r, rfl, rfl, ha, hb, t, q⟩ := h
  cases rx
  cases ry
  obtain ⟨_, ya, va, ra, da⟩ := dk_rd I.hok ha
  obtain ⟨_, yb, vb, rb, db⟩ := dk_rd I.hok hb
  refine PySem.W.keq_eq (knd := mixKind X.prog X.w) ya yb da db (by omega) (fun _ => t.run I (by show X.A.units + 1 + 64 < cLine; omega) rb ra) ⟨.bl _, H, I, rfl, ?_⟩
  rw [← ra.length, ← rb.length]
  exact q
theorem op_dkNe (hu : X.A.units + 65 < cLine) : OpR X (compareOp .NotEq) (rDk X.K true) := by
  intro pins s σ H x y v u Q I rx ry h; obtain ⟨a, b, ks, ls, r, rfl, rfl, ha, hb, t, q⟩ := h
  cases rx
  cases ry
  obtain ⟨_, ya, va, ra, da⟩ := dk_rd I.hok ha
  obtain ⟨_, yb, vb, rb, db⟩ := dk_rd I.hok hb
  refine PySem.W.keq_ne (knd := mixKind X.prog X.w) ya yb da db (by omega) (fun _ => t.run I (by show X.A.units + 1 + 64 < cLine; omega) rb ra) ⟨.bl _, H, I, rfl, ?_⟩
  rw [← ra.length, ← rb.length]
  exact q
end
def andO (b : Bool) : Option Bool → Option Bool
  | some c => some (match b with
    | true => c
    | false => false)
  | none => none
def eqDk (S : Sto) (lds : List (Key × D)) : List (Key × D) → Option Bool
  | [] => some true
  | (k, d) :: r => (match lookK lds k with
    | none => some false
    | some e => (match eqD S d e with
      | some b => andO b (eqDk S lds r)
      | none => none))
def eqLen {α β : Type} : List α → List β → Bool
  | [], [] => true
  | _ :: x, _ :: y => eqLen x y
  | _, _ => false
theorem eqLen_eq {α β : Type} : ∀ (x : List α) (y : List β), eqLen x y = (x.length == y.length)
  | [], [] => rfl
  | [], _ :: _ => by simp [eqLen]
  | _ :: _, [] => by simp [eqLen]
  | _ :: x, _ :: y => by
    show eqLen x y = _
    rw [eqLen_eq x y]; simp
def dkEq (S : Sto) (a b : D) : Option Bool := match dctV S a, dctV S b with
  | some ks, some ls => (match eqDk S ls ks with
    | some r => some (match eqLen ks ls with
      | true => r
      | false => false)
    | none => none)
  | _, _ => none
def isDks (a b : D) (S : Sto) : Bool := match dctV S a with
  | some _ => (match dctV S b with
    | some _ => true
    | none => false)
  | none => false
def fEqK : D → D → Sto → Res D := fun a b S => match dkEq S a b with
  | some e => .ok (.bl e) S
  | none => .bad
def fNeK : D → D → Sto → Res D := fun a b S => match dkEq S a b with
  | some e => .ok (.bl (!e)) S
  | none => .bad
def fEqX : D → D → Sto → Res D := fun a b S => match isDks a b S with
  | true => fEqK a b S
  | false => fEq a b S
def fNeX : D → D → Sto → Res D := fun a b S => match isDks a b S with
  | true => fNeK a b S
  | false => fNe a b S
section
variable {X : Cx} {C : Cfg} {W : XK}
theorem oIsB : OpD X C W (compareOp .Is) fIsB := by
  refine ⟨_, op_isBl, fun M S H a b x y Q s ra rb q => ?_⟩
  unfold fIsB at q
  split at q
  · cases ra; cases rb
    rw [eqBl_eq] at q
    exact ⟨_, _, rfl, rfl, q.ok s (.bl _)⟩
  · exact q.elim
theorem oIsntB : OpD X C W (compareOp .IsNot) fIsntB := by
  refine ⟨_, op_notBl, fun M S H a b x y Q s ra rb q => ?_⟩
  unfold fIsntB at q
  split at q
  · cases ra; cases rb
    rw [eqBl_eq] at q
    exact ⟨_, _, rfl, rfl, q.ok s (.bl _)⟩
  · exact q.elim
theorem oIsX : OpD X C W (compareOp .Is) fIsX := OpD.or oIsB oIs isBls
theorem oIsntX : OpD X C W (compareOp .IsNot) fIsntX := OpD.or oIsntB oIsnt isBls
theorem eqDk_of {M : Wd} {S : Sto} {H : Hp} (s : Sim C M S H) {lds : List (Key × D)} {ls : List (Key × V)} (rl : RepK C M lds ls) : ∀ {kds : List (Key × D)} {ks : List (Key × V)} {r : Bool}, RepG C M kds ks → eqDk S lds kds = some r → KH C.K H ls ks r
  | [], _, r, rk, h => by cases h; rw [rk.nil_inv]; exact .nil
  | (k, d) :: rs, _, r, rk, h => by
    obtain ⟨v, ps, rfl, h1, h2⟩ := rk.cons_inv
    have lk := lookK_of k rl
    unfold eqDk at h
    split at h
    · rename_i e
      cases h
      rw [e] at lk
      exact .miss lk
    · rename_i e1 e
      rw [e] at lk
      obtain ⟨u, hu, ru⟩ := lk
      split at h
      · rename_i b e2
        obtain ⟨p, q, d1, d2, s1, s2, ev⟩ := eqD_of s h1 ru e2
        cases e3 : eqDk S lds rs with
        | none => rw [e3] at h; cases h
        | some c =>
          rw [e3] at h
          have hr : (PyData.eqv p q && c) = r := by
            rw [ev]
            cases b <;> · cases h; rfl
          rw [← hr]
          exact .hit hu d1 d2 s1 s2 (eqDk_of s rl h2 e3)
      · cases h
theorem dkEq_of {M : Wd} {S : Sto} {H : Hp} {a b : D} {x y : V} {e : Bool} (s : Sim C M S H) (ra : Rep C M a x) (rb : Rep C M b y) (h : dkEq S a b = some e) :
    ∃ p q ks ls r, x = .ref p ∧ y = .ref q ∧ Rd H p (.dK ks) ∧ Rd H q (.dK ls) ∧ KH C.K H ls ks r ∧ (ks.length == ls.length && r) = e := by
  unfold dkEq at h
  split at h
  · rename_i kds lds e1 e2
    split at h
    · rename_i r e3
      obtain ⟨p, ks, rfl, h1, g1⟩ := dct_of s ra e1
      obtain ⟨q, ls, rfl, h2, g2⟩ := dct_of s rb e2
      have g1' : RepG C M kds ks := g1
      have g2' : RepG C M lds ls := g2
      refine ⟨p, q, ks, ls, r, rfl, rfl, h1, h2, eqDk_of s g2 g1' e3, ?_⟩
      rw [← g1'.length, ← g2'.length, ← eqLen_eq]
      cases e4 : eqLen kds lds with
      | true => rw [e4] at h; cases h; rfl
      | false => rw [e4] at h; cases h; rfl
    · cases h
  · cases h
theorem oEqK (hK : X.K = C.K) (hu : X.A.units + 65 < cLine) : OpD X C W (compareOp .Eq) fEqK := by
  refine ⟨_, op_dkEq hu, fun M S H a b x y Q s ra rb q => ?_⟩
  unfold fEqK at q
  split at q
  · rename_i e he
    obtain ⟨p, r, ks, ls, rr, h1, h2, h3, h4, h5, h6⟩ := dkEq_of s ra rb he
    exact ⟨p, r, ks, ls, rr, h1, h2, h3, h4, hK ▸ h5, by rw [if_neg (by decide), h6]; exact q.ok s (.bl _)⟩
  · exact q.elim
theorem oNeK (hK : X.K = C.K) (hu : X.A.units + 65 < cLine) : OpD X C W (compareOp .NotEq) fNeK := by
  refine ⟨_, op_dkNe hu, fun M S H a b x y Q s ra rb q => ?_⟩
  unfold fNeK at q
  split at q
  · rename_i e he
    obtain ⟨p, r, ks, ls, rr, h1, h2, h3, h4, h5, h6⟩ := dkEq_of s ra rb he
    exact ⟨p, r, ks, ls, rr, h1, h2, h3, h4, hK ▸ h5, by rw [if_pos rfl, h6]; exact q.ok s (.bl _)⟩
  · exact q.elim
theorem oEqX (hK : X.K = C.K) (hu : X.A.units + 65 < cLine) : OpD X C W (compareOp .Eq) fEqX := OpD.or (oEqK hK hu) (oEq hK (by omega)) isDks
theorem oNeX (hK : X.K = C.K) (hu : X.A.units + 65 < cLine) : OpD X C W (compareOp .NotEq) fNeX := OpD.or (oNeK hK hu) (oNe hK (by omega)) isDks
end
/-- xs * n as a list that may change -/
def fMulM : D → D → Sto → Res D := fun a b S => match a, b with
  | a, .int (.ofNat k) => (match lstX S a with
    | some xs => guard (lineOk (xs.length * k) && lineOk k) (.ok (.ref S.nx) (S.new (.lst (repD xs k))))
    | none => .bad)
  | _, _ => .bad
theorem oMulM {X : Cx} {C : Cfg} {W : XK} : OpD X C W (binaryOp .Mult) fMulM := by
  refine ⟨_, op_rep, fun M S H a b x y Q s ra rb q => ?_⟩
  unfold fMulM at q
  split at q
  · split at q
    · rename_i a k _ xs e
      obtain ⟨g, q⟩ := guard_ok q
      obtain ⟨g1, g2⟩ := Bool.and_eq_true_iff.mp g
      obtain ⟨l, vs, rfl, h1, r1⟩ := lstX_of s ra e
      cases rb
      have gk : k ≤ 1000000 := Nat.le_of_ble_eq_true (show Nat.ble k 1000000 = true from g2)
      refine ⟨l, _, vs, rfl, rfl, h1, by show -(2 ^ 63) ≤ ((k : Nat) : Int); omega, by show ((k : Nat) : Int) < 2 ^ 63; omega, ?_, fun p hp => newSto q s ⟨_, rfl, repD_ok r1 k⟩ hp⟩
      show vs.length * k ≤ sizeLine
      rw [← r1.1]; exact lineOk_ok g1
    · exact q.elim
  · exact q.elim
end Pd

/-! constants of the module told by checks; a Hook over a list of addresses -/
namespace Pd
open L2 PySem PySem.Spec PyProof.Rows

theorem tupO_ok {K : PySem.W.Frag} {a : Addr} {us : List Value} (h : tupO (K.lookup a) = some us) : ∃ o its n, K.lookup a = some o ∧ o.cls = .type "tuple" ∧ o.dict = none ∧ o.data = .seq its n ∧ its.size ≤ sizeLine ∧ its.toList = us := by
  cases q : K.lookup a with
  | none => rw [q] at h; cases h
  | some o =>
    rw [q] at h
    obtain ⟨oc, od, dt, sl⟩ := o
    unfold tupO at h
    split at h
    · rename_i c its n sl' e
      cases e
      split at h
      · rename_i e2
        cases h
        obtain ⟨h1, h2⟩ := Bool.and_eq_true_iff.mp e2
        exact ⟨_, its, n, rfl, congrArg Value.type (of_decide_eq_true h1), rfl, rfl, lineOk_ok h2, rfl⟩
      · cases h
    · cases h
section
variable {C : Cfg}
def GoodC (C : Cfg) (d : D) (u : Value) : Prop := ∃ v, RelV v u ∧ KRep C d v
theorem repL_ok {f : D → Value → Bool} (ih : ∀ d u, f d u = true → GoodC C d u) : ∀ {ds : List D} {us : List Value}, repL f ds us = true → ∃ vs, Vals vs us ∧ ∀ M, RepL C M ds vs
  | [], [], _ => ⟨[], .nil, fun _ => .nil⟩
  | [], _ :: _, h => by cases h
  | _ :: _, [], h => by cases h
  | d :: ds, u :: us, h => by
    unfold repL at h
    split at h
    · rename_i e
      obtain ⟨v, r1, k1⟩ := ih d u e
      obtain ⟨vs, r2, k2⟩ := repL_ok ih h
      exact ⟨v :: vs, .cons r1 r2, fun M => .cons (k1 M) (k2 M)⟩
    · cases h
theorem repB_ok : ∀ (n : Nat) (d : D) (u : Value), repB C.K C.ga n d u = true → GoodC C d u
  | 0, _, _, h => by cases h
  | n + 1, d, u, h => by
    unfold repB at h
    split at h
    · exact ⟨.non, rfl, fun _ => .non⟩
    · rename_i b c
      rw [eqBl_eq] at h
      have := of_decide_eq_true h
      subst this
      exact ⟨.bl b, rfl, fun _ => .bl b⟩
    · rename_i i j t
      rw [eqB_eq] at h
      have := of_decide_eq_true h
      subst this
      exact ⟨.int i, ⟨t, rfl⟩, fun _ => .int i⟩
    · rename_i x y t
      have := (eqS_iff x y).mp h
      subst this
      exact ⟨.str x, ⟨t, rfl⟩, fun _ => .str x⟩
    · rename_i k a
      have e := Nat.eq_of_beq_eq_true h
      exact ⟨.ref a, rfl, fun M => e ▸ .glo k⟩
    · rename_i ds a
      split at h
      · rename_i us e
        obtain ⟨o, its, m, q, hc, hn, hd, hz, rfl⟩ := tupO_ok e
        obtain ⟨vs, r, k⟩ := repL_ok (repB_ok n) h
        exact ⟨.ref a, rfl, fun M => .ctp (.inr ⟨o, its, m, q, hc, hn, hd, hz, r⟩) (k M).1 (k M).2⟩
      · cases h
    · cases h
theorem ctp_ok {d : D} {a : Addr} (h : repB C.K C.ga 20 d (.ref a) = true) : KRep C d (.ref a) := by
  obtain ⟨v, r, k⟩ := repB_ok 20 d _ h
  cases v with
  | ref b => cases r; exact k
  | non => cases r
  | bl b => cases r
  | int i => obtain ⟨t, r⟩ := r; cases r
  | str x => obtain ⟨t, r⟩ := r; cases r
  | byt x => obtain ⟨t, r⟩ := r; cases r
  | flt x => obtain ⟨t, r⟩ := r; cases r
  | ty x => cases r
theorem kdcB_ok {a : Addr} : ∀ {kds : List (Str × D)}, kdcB C.K C.ga a kds = true → ∃ vs : List V, kds.length = vs.length ∧ (∀ (i : Nat) x d v, kds[i]? = some (x, d) → vs[i]? = some v → ∃ u, PySem.W.nsIn C.K a x = some (some u) ∧ RelV v u) ∧ ∀ M (i : Nat) x d v, kds[i]? = some (x, d) → vs[i]? = some v → Rep C M d v
  | [], _ => ⟨[], rfl, fun i x d v h _ => by simp at h, fun M i x d v h _ => by simp at h⟩
  | (x, d) :: r, h => by
    unfold kdcB at h
    split at h
    · rename_i u e
      split at h
      · rename_i e2
        obtain ⟨v, r1, k1⟩ := repB_ok 20 d u e2
        obtain ⟨vs, l, h1, h2⟩ := kdcB_ok h
        refine ⟨v :: vs, by simp [l], fun i y d' v' a b => ?_, fun M i y d' v' a b => ?_⟩
        · cases i with
          | zero => simp at a b; obtain ⟨rfl, rfl⟩ := a; subst b; exact ⟨u, e, r1⟩
          | succ i => exact h1 i y d' v' (by simpa using a) (by simpa using b)
        · cases i with
          | zero => simp at a b; obtain ⟨rfl, rfl⟩ := a; subst b; exact k1 M
          | succ i => exact h2 M i y d' v' (by simpa using a) (by simpa using b)
      · cases h
    · cases h
theorem keys_none {P : Params} {z : Str} : ∀ {l : List DictEntry} {ks : List Str}, l.map He.keyOf = He.keysIn P ks → z ∉ ks → l.find? (·.key.isStr z) = none ∧ l.any (·.refKey) = false
  | [], _, _, _ => ⟨rfl, rfl⟩
  | e :: r, [], h, _ => by cases h
  | e :: r, k :: ks, h, hz => by
    have h1 : He.keyOf e :: r.map He.keyOf = some (k, PyData.keyHash P k) :: He.keysIn P ks := h
    injection h1 with h2 h3
    obtain ⟨i1, i2⟩ := keys_none h3 fun q => hz (List.mem_cons_of_mem _ q)
    unfold He.keyOf at h2
    split at h2
    · rename_i x t q
      obtain ⟨rfl, _⟩ := Prod.mk.inj (Option.some.inj h2)
      have hne : x ≠ z := fun w => hz (w ▸ List.mem_cons_self)
      have self : e.key.isStr x = true := by rw [q]; simp [Value.isStr]
      have e1 : e.key.isStr z = false := isStr_other hne.symm e self
      have e2 : e.refKey = false := isStr_notRef e self
      exact ⟨by rw [List.find?_cons, e1]; exact i1, by rw [List.any_cons, e2, i2]; rfl⟩
    · cases h2
theorem kdc_ok {kds : List (Str × D)} {a : Addr} (h1 : He.dicW C.K a = some (He.keysIn C.w.params (kds.map (·.1)))) (h2 : kdcB C.K C.ga a kds = true) : KRep C (.kdc kds) (.ref a) := by
  obtain ⟨vs, l, k1, k2⟩ := kdcB_ok h2
  refine fun M => .kdc (He.dicW_ok h1) l k1 (fun z hz => ?_) (k2 M)
  have hz' : z ∉ kds.map (·.1) := fun q => by
    obtain ⟨p, hp, e⟩ := List.mem_map.mp q; exact hz p hp e
  unfold He.dicW at h1
  unfold PySem.W.nsIn
  cases q : C.K.lookup a with
  | none => rw [q] at h1; cases h1
  | some o =>
    obtain ⟨oc, od, dt, osl⟩ := o
    rw [q] at h1
    cases oc with
    | type c =>
      cases od with
      | none =>
        cases dt with
        | dict es n =>
          have h3 : (match decide (c = "dict") && (osl.isEmpty && !(a == sysModules)) with
            | true => some (es.toList.map He.keyOf)
            | false => none) = some (He.keysIn C.w.params (kds.map (·.1))) := h1
          split at h3
          · obtain ⟨i1, i2⟩ := keys_none (Option.some.inj h3) hz'
            show (match es.toList.find? (·.key.isStr z) with
              | some e => some (some e.val)
              | none => if es.toList.any (·.refKey) then none else some none) = some none
            rw [i1, i2]
            rfl
          · cases h3
        | _ => cases h1
      | some b => cases dt <;> cases h1
    | _ => cases od <;> cases dt <;> cases h1
end

/-! ### the Hook: what stands at a list of addresses -/
theorem obsAG_eq {as : List Addr} {fa : List He.Fa} {fn : List He.DefD} {ts : List He.Tab} {bs : PySem.W.Frag → Bool} {g : Addr → Option Obj} {s : Shared} (h : ∀ a, g a = s.heap.get? a) : obsAG as fa fn ts bs g = (hookA as fa fn ts bs).obs s := by
  have e : g = s.heap.get? := funext h; rw [e] <;> rfl
section
variable {fa : List He.Fa} {fn : List He.DefD} {ts : List He.Tab} {bs : PySem.W.Frag → Bool} {w : World} {K : PySem.W.Frag}
theorem SaysA.t (c : SaysA fa fn ts bs w K) : He.SaysT fa fn ts w K := congrArg (fun z : AlA => z.1) c
theorem SaysA.d (c : SaysA fa fn ts bs w K) : He.SaysD fa fn K := c.t.d
theorem SaysA.b (c : SaysA fa fn ts bs w K) : bs K = true := congrArg (fun z : AlA => z.2) c
theorem SaysA.tab (c : SaysA fa fn ts bs w K) (i : Nat) {t : He.Tab} (h : ts[i]? = some t := by rfl) : He.dicW K (t.1 K) = some (He.keysIn w.params t.2) := by
  have e : ts.map (fun t => He.dicW K (t.1 K)) = ts.map fun t => some (He.keysIn w.params t.2) := congrArg (fun z : He.AlT => z.2) c.t
  have e2 : (ts.map fun t => He.dicW K (t.1 K))[i]? = (ts.map fun t => some (He.keysIn w.params t.2))[i]? := by rw [e]
  rw [List.getElem?_map, List.getElem?_map, h] at e2; exact Option.some.inj e2
end
end Pd

/-! tuples known as objects: t + u, t.index(x) -/
namespace Pd
open L2 PySem PySem.Spec PyProof.Rows

def rCatP (K : PySem.W.Frag) : R2 := fun x y H Q => ∃ a b xs ys, x = .ref a ∧ y = .ref b ∧ SqT K H a xs ∧ SqT K H b ys ∧ xs ≠ [] ∧ ys ≠ [] ∧ xs.length + ys.length ≤ sizeLine ∧ ∀ q ob, H q = none → ob.dict = none → Q (.ref q) (upd H q (.frz ob (.tup (xs ++ ys))))
section
variable {X : Cx} {C : Cfg} {W : XK}
theorem op_catP : OpR X (binaryOp .Add) (rCatP X.K) := by
  intro pins s σ H x y v u Q I rx ry h; obtain ⟨a, b, xs, ys, rfl, rfl, ha, hb, hx, hy, hz, q⟩ := h
  cases rx
  cases ry
  obtain ⟨us, r1, p1, _⟩ := I.tuple ha
  obtain ⟨ws, r2, p2, _⟩ := I.tuple hb
  refine HT.cat_tup p1 p2 (fun z => hx (r1.nil_iff.mp z)) (fun z => absurd (r2.nil_iff.mp z) hy) (fun _ => ?_) (by rw [← r1.length, ← r2.length]; exact hz)
  have at_ : (s.heap.push { cls := .type "tuple", data := .seq (us ++ ws).toArray }).get? s.heap.objs.size = some { cls := .type "tuple", data := .seq (us ++ ws).toArray } := Heap.get?_push_size _ rfl
  exact ⟨.ref s.heap.objs.size, _, I.laid (t' := s.toks) (o := .frz { cls := .type "tuple", data := .seq (us ++ ws).toArray } (.tup (xs ++ ys))) (fun b ob q => Heap.get?_push_of_some _ q) (Nat.le_refl _)
    ⟨at_, by rw [List.length_append]; exact hz, _, r1.append r2, IsTup.new _ _⟩, rfl, q _ _ (I.hok.fresh (Nat.le_refl _)) rfl⟩
def fCatP : D → D → Sto → Res D := fun a b S => match tupV a, tupV b with
  | some (x :: xs), some (y :: ys) => guard (lineOk ((x :: xs).length + (y :: ys).length)) (.ok (.ctp (x :: xs ++ y :: ys)) S)
  | _, _ => .bad
theorem oCatP (hK : X.K = C.K) : OpD X C W (binaryOp .Add) fCatP := by
  refine ⟨_, op_catP, fun M S H a b x y Q s ra rb q => ?_⟩
  unfold fCatP at q
  split at q
  · rename_i d ds e es e1 e2
    obtain ⟨g, q⟩ := guard_ok q
    obtain ⟨l, vs, rfl, h1, r1⟩ := tup_of s ra e1
    obtain ⟨m, ws, rfl, h2, r2⟩ := tup_of s rb e2
    refine ⟨l, m, vs, ws, rfl, rfl, hK ▸ h1, hK ▸ h2, fun z => ?_, fun z => ?_, by rw [← r1.1, ← r2.1]; exact lineOk_ok g, fun p ob hp hd => ?_⟩
    · subst z; exact absurd r1.1 (by simp)
    · subst z; exact absurd r2.1 (by simp)
    · have lp : M.le (M.lay p (.frz ob (.tup (vs ++ ws)))) := Wd.lay_le (s.free hp)
      have rr := (r1.append r2).mono lp
      exact q _ _ _ lp (s.lay hp) (.ctp (.inl ⟨ob, upd_same, hd⟩) rr.1 rr.2)
  · exact q.elim
theorem Sim.tupP {M : Wd} {S : Sto} {H : Hp} (s : Sim C M S H) {a : Addr} {vs : List V} (h : SqP C.K M.fz a vs) : SqP C.K H a vs := by
  rcases h with ⟨ob, h, hd⟩ | h
  · rcases s.fr a _ h with q | ⟨q, _⟩
    · exact .inl ⟨ob, q, hd⟩
    · exact q.elim
  · exact .inr h
def tBMP (K : PySem.W.Frag) (r : V → List V → Hp → VK → Prop) (to : TE) (t : TA) : TE := fun σ H Q => to σ H fun x H1 => (∃ a vs, x = .ref a ∧ SqP K H1 a vs) ∧ t σ H1 fun xs H2 => r x xs H2 Q
theorem pe_bmP {id : String} {name : Str} {r : V → List V → Hp → VK → Prop} {o e : Expr} {es : List Expr} {to : TE} {t : TA} {apos cpos : Pos} (slot : Slot "tuple" name id) (hty : typeOf (.builtin id) = pure (.type "method_descriptor")) (hm : MtR X id r) (ho : PE X o to) (ha : PA X (e :: es) t) (hbase : attributeBase o name X.env (eval o X.env) = eval o X.env := by rfl)
    (hfew : ((backTo cpos (starEach (e :: es) X.env)).all (fun x => !x.1) && (backToKw cpos (keywordEach [] X.env)).all (fun x => x.1.isSome) && decide ((e :: es).length + ([] : List Keyword).length + (if ([] : List Keyword).isEmpty then 0 else 1) < 30)) = true := by rfl) (hline : (apos.endLine == cpos.line) = true := by rfl) (hs : starEach (e :: es) X.env = (false, eval e X.env) :: starEach es X.env := by rfl) (hplain : (backTo cpos (starEach es X.env)).any (·.1) = false := by rfl) :
    PE X (.Call (.Attribute o name apos) (e :: es) [] cpos) (tBMP X.K r to t) := by
  refine ⟨fun pins s σ H Q I h => ?_⟩; refine wpAny_Call_method_late hbase hfew hline rfl (thn (ho.run pins s σ H _ I h) fun v s1 ⟨x, H1, I1, r1, ty, q1⟩ => ?_)
  obtain ⟨a, vs, rfl, hq⟩ := ty
  obtain rfl : v = Value.ref a := r1; obtain ⟨its, rv, ⟨ob, hob, hcl, hdt⟩, _⟩ := I1.tuple hq.sq
  have hdn : ob.dict = none := by
    rcases hq with ⟨o2, h, hd⟩ | ⟨o2, _, _, h, _, hd, _⟩
    · have := (show ObjOk X.prog X.w H1 s1.heap a (.frz o2 (.tup vs)) from I1.hok a _ h).1
      rw [hob] at this; cases this; exact hd
    · have := I1.kIn a o2 h
      rw [hob] at this; cases this; exact hd
  refine ⟨"tuple", id, PySem.F.plainAttrs_tuple, slot, hty, ⟨ob, hob, hcl⟩, fun b e => ?_, ?_⟩
  · cases e; exact ⟨ob, hob, hdn⟩
  have hA := ha.run cpos pins s1 σ H1 _ I1 q1; rw [hs] at hA ⊢
  refine Calls.callWith_builtin (by show (false || (backTo cpos (starEach es X.env)).any (·.1)) = false; rw [hplain] <;> rfl) (Calls.evalArgs_plain ?_); exact thn hA fun us s2 ⟨vs, H2, I2, r2, q2⟩ => hm pins s2 σ H2 (.ref a) vs _ us Q I2 (show L2.RelV (.ref a) (.ref a) from rfl) r2 q2
def isP (d : D) : Bool := match d with
  | .ctp _ => true
  | _ => false
def dBMP (g : D → List D → Sto → Res D) (fo : DE) (fr : DA) : DE := fun Γ S => (fo Γ S).bind fun d S1 => guard (isP d) ((fr Γ S1).bind fun ds S2 => g d ds S2)
theorem xbmP {id : String} {name : Str} {g : D → List D → Sto → Res D} {o e : Expr} {es : List Expr} {fo : DE} {fr : DA} {apos cpos : Pos} (hK : X.K = C.K) (slot : Slot "tuple" name id) (hty : typeOf (.builtin id) = pure (.type "method_descriptor")) (hm : MtD X C W id g) (ho : PE X o (tE C W fo)) (ha : PA X (e :: es) (tA C W fr)) (hbase : attributeBase o name X.env (eval o X.env) = eval o X.env := by rfl)
    (hfew : ((backTo cpos (starEach (e :: es) X.env)).all (fun x => !x.1) && (backToKw cpos (keywordEach [] X.env)).all (fun x => x.1.isSome) && decide ((e :: es).length + ([] : List Keyword).length + (if ([] : List Keyword).isEmpty then 0 else 1) < 30)) = true := by rfl) (hline : (apos.endLine == cpos.line) = true := by rfl) (hs : starEach (e :: es) X.env = (false, eval e X.env) :: starEach es X.env := by rfl) (hplain : (backTo cpos (starEach es X.env)).any (·.1) = false := by rfl) :
    PE X (.Call (.Attribute o name apos) (e :: es) [] cpos) (tE C W (dBMP g fo fr)) := by
  obtain ⟨r, hr, k⟩ := hm
  exact (pe_bmP slot hty hr ho ha hbase hfew hline hs hplain).by fun σ H Q ⟨M, Γ, S, g, s, h⟩ => run1 g s h fun M1 d S1 x H1 l1 s1 r1 h1 => by
    obtain ⟨g1, h1⟩ := guard_ok h1
    refine ⟨?_, runA (g.mono l1) s1 h1 fun M2 ds S2 vs H2 l2 s2 r2 h2 => k M2 S2 H2 d ds x vs Q s2 (r1.mono l2) r2 h2⟩
    unfold isP at g1
    split at g1
    · cases r1 with
      | ctp h hl hr => exact ⟨_, _, rfl, hK ▸ s1.tupP h⟩
    · cases g1
def strsD : List D → Option (List Str)
  | [] => some []
  | .str x :: r => (match strsD r with
    | some l => some (x :: l)
    | none => none)
  | _ => none
def findS (z : Str) : List Str → Nat → Option Nat
  | [], _ => none
  | x :: r, j => (match eqS x z with
    | true => some j
    | false => findS z r (j + 1))
theorem findS_ok (z : Str) : ∀ (l : List Str) (i j : Nat), findS z l i = some j → ∃ k, j = i + k ∧ l[k]? = some z ∧ ∀ m, m < k → l[m]? ≠ some z
  | [], _, _, h => by cases h
  | x :: r, i, j, h => by
    unfold findS at h
    split at h
    · rename_i e
      cases h
      exact ⟨0, rfl, by rw [(eqS_iff x z).mp e]; rfl, fun m hm => absurd hm (Nat.not_lt_zero m)⟩
    · rename_i e
      obtain ⟨k, h1, h2, h3⟩ := findS_ok z r (i + 1) j h
      refine ⟨k + 1, by omega, h2, fun m hm q => ?_⟩
      cases m with
      | zero =>
        have q : some x = some z := q
        cases q
        rw [(eqS_iff _ _).mpr rfl] at e; cases e
      | succ m => exact h3 m (by omega) q
theorem strsD_of {M : Wd} : ∀ {ds : List D} {vs : List V} {ns : List Str}, RepL C M ds vs → strsD ds = some ns → vs = ns.map V.str
  | [], _, _, r, h => by cases h; exact r.nil_inv
  | d :: ds, _, ns, r, h => by
    obtain ⟨v, us, rfl, h1, h2⟩ := r.cons_inv
    unfold strsD at h
    split at h
    · rename_i e; cases e
    · rename_i b r' e
      cases e
      split at h
      · rename_i ms e2
        cases h
        cases h1
        rw [strsD_of h2 e2]; rfl
      · cases h
    · cases h
def gIndexP : D → List D → Sto → Res D := fun d ds S => match tupV d, ds with
  | some xs, [.str z] => (match strsD xs with
    | some ns => (match findS z ns 0 with
      | some j => .ok (.int j) S
      | none => .bad)
    | none => .bad)
  | _, _ => .bad
theorem mIndexP (hK : X.K = C.K) : MtD X C W "tuple.index" gIndexP := by
  refine ⟨_, mt_tup_index, fun M S H d ds x vs Q s r rl q => ?_⟩
  unfold gIndexP at q
  split at q
  · rename_i xs z e
    split at q
    · rename_i ns e2
      split at q
      · rename_i j ej
        obtain ⟨a, us, rfl, h1, rx⟩ := tup_of s r e
        obtain ⟨v, ws, rfl, ry, rn⟩ := rl.cons_inv
        rw [rn.nil_inv]
        cases ry
        obtain ⟨k, e1, h3, h4⟩ := findS_ok z ns 0 j ej
        obtain rfl : j = k := by omega
        have := strsD_of rx e2
        subst this
        exact ⟨a, ns, z, j, rfl, rfl, hK ▸ h1, h3, h4, q.ok s (.int _)⟩
      · exact q.elim
    · exact q.elim
  · exact q.elim
end
end Pd

/-! a law as a whole -/
namespace Pd
open L2 PySem PySem.Spec PyProof.Rows

section
variable {P : Program} {w : World} {K : PySem.W.Frag} {mg : Str → Option Value} {base : Heap} {C : Cfg} {x qual : Str} {params : Arguments} {body : List Stmt} {scope : Scope} {f : Addr} {fd : FuncData}
theorem okfn {N ps : List Str} {k : Nat} {fb : DS} (F : FunD K x qual params body scope [] [] f fd) (S : FnScope N ps scope) (hle : Nat.ble ps.length N.length = true)
    (hbody : ∀ (cdv : Value) (A : Around) (outer : List Env) (s : Shared) (H : Hp) (E : XK), Room k (A.deeper (envOfC qual scope s.heap.objs.size f cdv)) → PSs (cxOf CX0 P w K mg base N qual scope f cdv A outer s H E) body (tS C E fb)) :
    FnOk P w K mg base CX0 (k + 1) f fd ps (spD C ps.length (dFun N.length fb)) := by
  refine F.ok S (fun vs H Q E h => ?_) (fun cdv A outer s H vs Q E hr h => ⟨tS C E fb, hbody cdv A outer s H E hr, ?_⟩)
  · obtain ⟨M, S0, ds, hl, _, r, _⟩ := h
    rw [← r.1, hl]
  · obtain ⟨M, S0, ds, hl, sm, r, g⟩ := h
    refine ⟨M, startG N.length ds, S0, startG_rep (by rw [hl]; exact len_ok hle) r, sm, ?_⟩
    have g : GoodE C M (endD (fb (startG N.length ds) S0)) Q E := g
    cases e : fb (startG N.length ds) S0 with
    | nx Γ S' => rw [e] at g; exact fun M' σ' H' l _ s => g M' .non H' l s .non
    | rt d S' => rw [e] at g; exact g
    | bk Γ S' => rw [e] at g; exact g.elim
    | ct Γ S' => rw [e] at g; exact g.elim
    | exc c fs S' => rw [e] at g; exact fun M' σ' c' d H' l s r => g M' c' d H' l s r
    | bad => rw [e] at g; exact g.elim
end
def S0 : Sto := ⟨0, []⟩
def isT : Res D → Bool
  | .ok (.bl true) _ => true
  | _ => false
theorem isT_ok {r : Res D} (h : isT r = true) : ∃ S, r = .ok (.bl true) S := by
  unfold isT at h
  split at h
  · exact ⟨_, rfl⟩
  · cases h
/-- a law that gives True whatever the script is -/
theorem sp_of {C : Cfg} {f : List D → Sto → Res D} {H : Hp} {a : Addr} {ns : List Int} (hs : SqL C.K H a (ns.map V.int)) (h : ∀ d, isT (f [d] S0) = true) : spD C 1 f [.ref a] H (fun v _ => v = .bl true) fun _ _ _ => False := by
  have rl : RepL C ⟨H, fun _ => none, fun _ => none, fun _ => none⟩ (ns.map D.int) (ns.map V.int) := by
    induction ns with
    | nil => exact .nil
    | cons n ns ih =>
      clear hs ih
      induction (n :: ns) with
      | nil => exact .nil
      | cons i r ih => exact .cons (.int i) ih
  refine ⟨⟨H, fun _ => none, fun _ => none, fun _ => none⟩, S0, [.frl (ns.map D.int)], rfl, ⟨fun b o e => .inl e, fun n m e => (nomatch e), fun n n' b e => (nomatch e), fun n b e => (nomatch e), fun b od u e => (nomatch e), fun b u e => (nomatch e)⟩, .cons (.frl hs rl.1 rl.2) .nil, ?_⟩
  obtain ⟨S', e⟩ := isT_ok (h (.frl (ns.map D.int)))
  rw [e]
  intro M' v H' _ _ r
  cases r
  rfl
end Pd

/-! texts: split, join, find, str(int); sorted(list of ints) -/
namespace Pd
open L2 PySem PySem.Spec PyProof.Rows

def strsL : List Str → List D
  | [] => []
  | x :: r => .str x :: strsL r
section
variable {X : Cx} {C : Cfg} {W : XK}
theorem strsL_of {M : Wd} : ∀ ns : List Str, RepL C M (strsL ns) (ns.map V.str)
  | [] => .nil
  | x :: r => .cons (.str x) (strsL_of r)
def gSplit : D → List D → Sto → Res D := fun d ds S => match d, ds with
  | .str a, [.str b] => (match b.length == 0 with
    | true => .bad
    | false => guard (lineOk (a.length + 2)) (.ok (.ref S.nx) (S.new (.lst (strsL (Txt.split a b))))))
  | _, _ => .bad
theorem mSplit : MtD X C W "str.split" gSplit := by
  refine ⟨_, mt_split, fun M S H d ds x vs Q s r rl q => ?_⟩
  unfold gSplit at q
  split at q
  · rename_i a b
    split at q
    · exact q.elim
    · rename_i e
      obtain ⟨g, q⟩ := guard_ok q
      cases r
      obtain ⟨v, ws, rfl, ry, rn⟩ := rl.cons_inv
      rw [rn.nil_inv]
      cases ry
      exact ⟨a, b, rfl, rfl, e, lineOk_ok g, fun p hp => newSto q s ⟨_, rfl, strsL_of _⟩ hp⟩
  · exact q.elim
def sumLen : List Str → Nat
  | [] => 0
  | x :: r => x.length + sumLen r
theorem sumLen_eq : ∀ l : List Str, sumLen l = (l.map (·.length)).sum
  | [] => rfl
  | x :: r => by
    show x.length + sumLen r = _
    rw [sumLen_eq r]; simp
def gJoin : D → List D → Sto → Res D := fun d ds S => match d, ds with
  | .str a, [e] => (match seqV S e with
    | some xs => (match strsD xs with
      | some ns => guard (Nat.ble (sumLen ns + ns.length * a.length) 16777216) (.ok (.str (Txt.join a ns)) S)
      | none => .bad)
    | none => .bad)
  | _, _ => .bad
theorem mJoin (hK : X.K = C.K) : MtD X C W "str.join" gJoin := by
  refine ⟨_, mt_join, fun M S H d ds x vs Q s r rl q => ?_⟩
  unfold gJoin at q
  split at q
  · rename_i a e
    split at q
    · rename_i xs e1
      split at q
      · rename_i ns e2
        obtain ⟨g, q⟩ := guard_ok q
        cases r
        obtain ⟨v, ws, rfl, ry, rn⟩ := rl.cons_inv
        rw [rn.nil_inv]
        obtain ⟨p, us, rfl, h1, rx⟩ := seq_of s ry e1
        have := strsD_of rx e2
        subst this
        exact ⟨a, p, ns, rfl, rfl, hK ▸ h1, by rw [← sumLen_eq]; exact Nat.le_of_ble_eq_true g, q.ok s (.str _)⟩
      · exact q.elim
    · exact q.elim
  · exact q.elim
def gFind : D → List D → Sto → Res D := fun d ds S => match d, ds with
  | .str a, [.str b] => .ok (.int (Txt.find a b)) S
  | _, _ => .bad
theorem mFind : MtD X C W "str.find" gFind := by
  refine ⟨_, mt_find, fun M S H d ds x vs Q s r rl q => ?_⟩
  unfold gFind at q
  split at q
  · rename_i a b
    cases r
    obtain ⟨v, ws, rfl, ry, rn⟩ := rl.cons_inv
    rw [rn.nil_inv]
    cases ry
    exact ⟨a, b, rfl, rfl, q.ok s (.int _)⟩
  · exact q.elim
def gStr : List D → Sto → Res D := fun ds S => match ds with
  | [.int i] => guard (Nat.blt i.natAbs 1000000000000) (.ok (.str (toString i)) S)
  | _ => .bad
theorem cStrI : CaD X C W (.type "str") gStr := by
  refine ⟨_, call_str_int, fun M S H ds vs Q s r q => ?_⟩
  unfold gStr at q
  split at q
  · rename_i i
    obtain ⟨g, q⟩ := guard_ok q
    obtain ⟨v, rfl, rd⟩ := one_of r
    cases rd
    have h1 : i.natAbs < 1000000000000 := Nat.le_of_ble_eq_true g
    refine ⟨i, rfl, ?_, q.ok s (.str _)⟩
    by_cases z : i.natAbs = 0
    · rw [z]; decide
    · exact Nat.lt_of_lt_of_le ((Nat.log2_lt z).mpr (show i.natAbs < 2 ^ 40 by omega)) (by decide)
  · exact q.elim
/-- put behind those that are not greater -/
def insS (k : Int) : List Int → List Int
  | [] => [k]
  | x :: r => (match ltB k x with
    | true => k :: x :: r
    | false => x :: insS k r)
def sortS : List Int → List Int
  | [] => []
  | k :: r => insS k (sortS r)
theorem insS_perm (k : Int) : ∀ l : List Int, (insS k l).Perm (k :: l)
  | [] => .refl _
  | x :: r => by
    unfold insS
    cases ltB k x with
    | true => exact .refl _
    | false => exact ((insS_perm k r).cons x).trans (List.Perm.swap k x r)
theorem sortS_perm : ∀ l : List Int, (sortS l).Perm l
  | [] => .refl _
  | k :: r => (insS_perm k (sortS r)).trans ((sortS_perm r).cons k)
theorem insS_asc (k : Int) : ∀ (l : List Int), l.Pairwise (· ≤ ·) → (insS k l).Pairwise (· ≤ ·)
  | [], _ => by simp [insS]
  | x :: r, h => by
    obtain ⟨h1, h2⟩ := (List.pairwise_cons.mp h)
    unfold insS
    rw [ltB_eq]
    by_cases h3 : k < x
    · simp only [h3, decide_true]
      refine List.pairwise_cons.mpr ⟨fun y hy => ?_, h⟩
      rcases (List.mem_cons.mp hy) with rfl | hy
      · omega
      · have := h1 y hy; omega
    · simp only [h3, decide_false]
      refine List.pairwise_cons.mpr ⟨fun y hy => ?_, insS_asc k r h2⟩
      rcases List.mem_cons.mp ((insS_perm k r).mem_iff.mp hy) with rfl | hy
      · omega
      · exact h1 y hy
theorem sortS_asc : ∀ (l : List Int), (sortS l).Pairwise (· ≤ ·)
  | [] => .nil
  | k :: r => insS_asc k _ (sortS_asc r)
def gSorted : List D → Sto → Res D := fun ds S => match ds with
  | [d] => (match lstV S d with
    | some xs => (match intsD xs with
      | some ns => (match Nat.blt ns.length 64 with
        | true => .ok (.ref S.nx) (S.new (.lst (tupI (sortS ns))))
        | false => .bad)
      | none => .bad)
    | none => .bad)
  | _ => .bad
theorem cSorted (hK : X.K = C.K) : CaD X C W (.builtin "sorted") gSorted := by
  refine ⟨_, cr_sorted, fun M S H ds vs Q s r q => ?_⟩
  unfold gSorted at q
  split at q
  · rename_i d
    split at q
    · rename_i xs e1
      split at q
      · rename_i ns e2
        split at q
        · rename_i e3
          obtain ⟨v, rfl, rd⟩ := one_of r
          obtain ⟨a, us, rfl, ha, rl⟩ := lst_of s rd e1
          have := intsD_of rl e2
          subst this
          refine ⟨a, ns, rfl, hK ▸ ha, Nat.le_of_ble_eq_true e3, fun ms p h1 h2 hp => ?_⟩
          have e4 : ms = sortS ns := (h1.trans (sortS_perm ns).symm).eq_of_pairwise (le := fun a b => a ≤ b) (fun a b _ _ h1 h2 => Int.le_antisymm h1 h2) h2 (sortS_asc ns)
          subst e4
          exact newSto q s ⟨_, rfl, tupI_of _⟩ hp
        · exact q.elim
      · exact q.elim
    · exact q.elim
  · exact q.elim
/-- o.f += e, of ints -/
def sAugA (c j : Nat) (fo fv : DE) : DS := fun Γ S => (fo Γ S).then fun o S1 => match insV S1 o with
  | some (c', fs) => (match Nat.beq c' c with
    | true => (match lookF fs j with
      | some (.int i) => (fv Γ S1).then fun v S2 => (match v with
        | .int k => (match fSetA c j o (.int (i + k)) S2 with
          | some S3 => .nx Γ S3
          | none => .bad)
        | _ => .bad)
      | _ => .bad)
    | false => .bad)
  | none => .bad
theorem yaugA {c j : Nat} {o e : Expr} {m : Str} {fv fo : DE} {pos tpos : Pos} (hK : X.K = C.K) (nd : C.an.Nodup) (hj : C.an[j]? = some m) (cl : Cls X.K (C.ga c)) (na : NoAttr X.K (C.ga c) m) (ho : PE X o (tE C W fo)) (he : PE X e (tE C W fv)) :
    PS X (.AugAssign (.Attribute o m tpos) .Add e pos) (tS C W (sAugA c j fo fv)) :=
  (ps_fldaug ho he in_add).by fun D σ H ⟨M, Γ, S, g, s, h⟩ => run1S g s h fun M1 o S1 x H1 l1 s1 r1 h1 => by
    split at h1
    · rename_i c' fs e1
      split at h1
      · rename_i ec
        have := Nat.eq_of_beq_eq_true ec
        subst this
        split at h1
        · rename_i i ev
          obtain ⟨a, dx, fv', rfl, ha, rf⟩ := ins_of s1 r1 e1
          obtain ⟨u, hu, ru⟩ := lookF_of nd hj rf ev
          cases ru
          refine ⟨a, C.ga c', dx, fv', .int i, rfl, ha, cl, na, hu, run1S (g.mono l1) s1 h1 fun M2 v S2 y H2 l2 s2 r2 h2 => ?_⟩
          split at h2
          · rename_i k
            cases r2
            refine ⟨i, k, rfl, rfl, ?_⟩
            split at h2
            · rename_i S3 e3
              unfold fSetA onS at e3
              split at e3
              · rename_i n
                have r1' := r1.mono l2
                cases r1'
                rename_i hm
                split at e3
                · rename_i mo em
                  obtain ⟨b, w, q1, q2, q3, q4⟩ := s2.al n mo em
                  rw [hm] at q1; cases q1
                  dsimp only at e3
                  split at e3
                  · rename_i c2 fs2
                    obtain ⟨dx2, fv2, rfl, rf2⟩ := q4
                    split at e3
                    · rename_i ec2
                      have := Nat.eq_of_beq_eq_true ec2
                      subst this
                      unfold ifS at e3
                      split at e3
                      · rename_i gl
                        cases e3
                        have hl : fs2.length < 100 := Nat.le_of_ble_eq_true gl
                        rw [rf2.length] at hl
                        refine ⟨dx2, fv2, q2, by omega, ?_⟩
                        exact h2.nxt (g.mono (l1.trans l2)) (s2.write em hm ⟨dx2, _, rfl, putA_of nd hj (.int _) rf2⟩)
                      · cases e3
                    · cases e3
                  · cases e3
                · cases e3
              · cases e3
            · exact h2.elim
          · exact h2.elim
        · exact h1.elim
      · exact h1.elim
    · exact h1.elim
end
end Pd

/-! list(zip(text, tuple)) -/
namespace Pd
open L2 PySem PySem.Spec PyProof.Rows

/-- a zip object whose tuple is handed out -/
abbrev ZipS (h : Heap) (z TI TO T : Addr) (b : Bool) : Prop :=
  h.get? z = some { cls := .type "zip", dict := none, data := .fields #[rawInt T, .bool b, .bool false, .ref TI, .ref TO], slots := #[] }
section
variable {prog : Program} {w : World} {s : Shared} {A : Around} {E : Value → Shared → Prop} {z TI TO i1 i2 T : Addr} {fp1 fp2 : List Addr} {n1 n2 i : Nat} {P1 P2 : Nat → Value → Prop} {St1 St2 : Nat → Heap → Prop} {b : Bool}
theorem zip_busy {Q : Bool → Shared → Prop} (hz : ZipS s.heap z TI TO T b) (hal : ∃ o, s.heap.get? T = some o) (hQ : ∀ h', ZipS h' z TI TO T true → Heap.SameBut z s.heap h' → Q false { s with heap := h' }) :
    wpAny (model prog w) A (Builtin.SmallTypes.ownedTupleIsFree (.ref z)) Q E s := by
  obtain ⟨hp, g, d, tk0, os⟩ := s; obtain ⟨oT, hoT⟩ := hal
  (unfold Builtin.SmallTypes.ownedTupleIsFree)
  refine wpAny_bind (wpAny_field hz rfl (x := rawInt T) rfl ?_); show wpAny _ _ (loadIfAlive (T : Int).toNat >>= _) _ _ _
  refine wpAny_bind (at_alive ?_)
  have e1 : hp.get? (T : Int).toNat = some oT := by
    rw [Int.toNat_natCast]; exact hoT
  show wpAny _ _ (if (hp.get? (T : Int).toNat).isNone = true then _ else _) _ _ _
  rw [e1, if_neg (show ¬ ((some oT).isNone = true) from Bool.false_ne_true)]
  refine wpAny_bind (wpAny_field hz rfl (x := .bool b) rfl ?_)
  cases b with
  | true =>
    refine wpAny_ite_split (fun hab => absurd hab (by decide)) fun _ => wpAny_pure ?_
    exact hQ hp hz ⟨rfl, fun _ _ => rfl⟩
  | false =>
    refine wpAny_ite_split (fun _ => ?_) fun hab => absurd (by decide) hab
    refine wpAny_bind (wpAny_setField_rec hz (by simp) fun h5 he5 hs5 => ?_)
    exact wpAny_pure (hQ h5 he5 hs5)
theorem zip_again {Q : Value → Shared → Prop} (S : ZipSep2 z TI TO i1 i2 fp1 fp2) (D1 : Draws prog w A i1 fp1 n1 P1 St1) (D2 : Draws prog w A i2 fp2 n2 P2 St2)
    (hz : ZipS s.heap z TI TO T b) (hal : ∃ o, s.heap.get? T = some o) (hTI : IsTupOf2 s.heap TI (.ref i1) (.ref i2)) (hTz : TI ≠ z) (st1 : St1 i s.heap) (st2 : St2 i s.heap) (hlt1 : i < n1) (hlt2 : i < n2)
    (hQ : ∀ x1 x2 h' tk, P1 i x1 → P2 i x2 → ZipS h' z TI TO T true → St1 (i + 1) h' → St2 (i + 1) h' → IsTupOf2 h' s.heap.objs.size x1 x2 →
      (∀ c o, c ≠ z → c ≠ i1 → c ≠ i2 → s.heap.get? c = some o → h'.get? c = some o) → Q (.ref s.heap.objs.size) { s with heap := h', toks := tk }) : wpAny (model prog w) A (Builtin.«zip.__next__» ⟨[.ref z], []⟩) (fun fin s' => ∃ v, fin = .done (.ret v) ∧ Q v s') E s := by
  obtain ⟨hp, g, d, tk0, os⟩ := s; show wpAny _ _ (field (.ref z) 2 >>= _) _ _ _
  refine wpAny_bind (wpAny_field hz rfl (x := .bool false) rfl ?_); show wpAny _ _ (field (.ref z) 3 >>= _) _ _ _
  refine wpAny_bind (wpAny_field hz rfl (x := .ref TI) rfl ?_); refine wpAny_bind (wpAny_seqItems hTI rfl ?_)
  show wpAny _ _ (Builtin.SmallTypes.ownedTupleIsFree (.ref z) >>= _) _ _ _; refine wpAny_bind (zip_busy hz hal fun h1 hz1 hs1 => ?_)
  replace hs1 : Heap.SameBut z hp h1 := hs1
  have hTI1 : IsTupOf2 h1 TI (.ref i1) (.ref i2) := hs1.extBut _ _ hTz hTI
  simp only [Bool.false_eq_true, if_false, List.forIn_toArray, List.forIn_cons, List.forIn_nil]
  refine wpAny_bind (wpAny_bind (wpAny_bind (wpAny_holding ?_)))
  show wpAny _ _ (Builtin.SmallTypes.nextOf (.ref i1) >>= _) _ _ ⟨h1, g, d, tk0, os⟩
  refine wpAny_bind (D1.item i _ _ _ hlt1 (D1.over st1 hs1 S.zf1) fun x1 p1 tk1 hx1 sn1 hp1 => wpAny_pure ?_)
  replace hp1 : Heap.SameBut i1 h1 p1 := hp1
  refine wpAny_pure ?_
  refine wpAny_bind (wpAny_bind (wpAny_holding ?_)); show wpAny _ _ (Builtin.SmallTypes.nextOf (.ref i2) >>= _) _ _ ⟨p1, g, d, tk1, os⟩
  refine wpAny_bind (D2.item i _ _ _ hlt2 (D2.over (D2.over st2 hs1 S.zf2) hp1 S.sep1_2) fun x2 p2 tk2 hx2 sn2 hp2 => wpAny_pure ?_)
  replace hp2 : Heap.SameBut i2 p1 p2 := hp2
  refine wpAny_pure ?_
  refine wpAny_pure ?_
  refine wpAny_bind (wpAny_newTuple ?_ (by show 2 ≤ sizeLine; decide)); have hsz : p2.objs.size = hp.objs.size := by rw [hp2.1, hp1.1, hs1.1]
  have k2 : ∀ c o, c ≠ z → c ≠ i1 → c ≠ i2 → hp.get? c = some o → p2.get? c = some o := fun c o z0 z1 z2 q => hp2.extBut c o z2 (hp1.extBut c o z1 (hs1.extBut c o z0 q))
  generalize hh4 : p2.push { cls := .type "tuple", data := .seq #[x1, x2] } = h4
  have k4 : ∀ a o, p2.get? a = some o → h4.get? a = some o := fun a o q => by rw [← hh4]; exact Heap.get?_push_of_some _ q
  have hnew : h4.get? hp.objs.size = some { cls := .type "tuple", data := .seq #[x1, x2] } := by rw [← hh4, ← hsz]; exact Heap.get?_push_size _ rfl
  refine wpAny_pure ⟨_, rfl, ?_⟩; show Q (.ref p2.objs.size) ⟨p2.push { cls := .type "tuple", data := .seq #[x1, x2] }, g, d, tk2, os⟩
  rw [hsz, hh4]
  exact hQ x1 x2 h4 tk2 hx1 hx2 (k4 _ _ (hp2.extBut _ _ S.zi2 (hp1.extBut _ _ S.zi1 hz1))) (D1.frame _ _ _ (D1.over sn1 hp2 S.sep2_1) fun a _ o q => k4 a o q) (D2.frame _ _ _ sn2 fun a _ o q => k4 a o q) hnew fun c o z0 z1 z2 q => k4 c o (k2 c o z0 z1 z2 q)

/-- a zip object that can be asked -/
def ZAny (h : Heap) (z TI TO i1 i2 : Addr) : Prop := IsTupOf2 h TI (.ref i1) (.ref i2) ∧ ((IsZip h z TI TO .none ∧ ∃ a1 a2, IsTupOf2 h TO a1 a2) ∨ ∃ T b, ZipS h z TI TO T b ∧ (∃ o, h.get? T = some o) ∧ T ≠ z ∧ T ≠ i1 ∧ T ≠ i2 ∧ T ≠ TO)
theorem ZAny.typeIs (x : ZAny s.heap z TI TO i1 i2) : s.TypeIs (.ref z) "zip" := by
  obtain ⟨_, ⟨h, _⟩ | ⟨_, _, h, _⟩⟩ := x
  · exact ⟨_, h, rfl⟩
  · exact ⟨_, h, rfl⟩
theorem ZAny.lt {h : Heap} (x : ZAny h z TI TO i1 i2) : z < h.objs.size := by
  obtain ⟨_, ⟨h, _⟩ | ⟨_, _, h, _⟩⟩ := x
  · exact Heap.lt_size h
  · exact Heap.lt_size h
theorem ZAny.keep {h h' : Heap} (x : ZAny h z TI TO i1 i2) {S : Addr} (hz : S ≠ z) (hI : S ≠ TI) (hO : S ≠ TO) (hk : ∀ a o, a ≠ S → h.get? a = some o → h'.get? a = some o) (hs : ∀ o, h.get? S = some o → ∃ o', h'.get? S = some o') : ZAny h' z TI TO i1 i2 := by
  obtain ⟨t, ⟨h, a1, a2, h2⟩ | ⟨T, b, h, ⟨o, ho⟩, q⟩⟩ := x
  · exact ⟨hk _ _ hI.symm t, .inl ⟨hk _ _ hz.symm h, a1, a2, hk _ _ hO.symm h2⟩⟩
  · refine ⟨hk _ _ hI.symm t, .inr ⟨T, b, hk _ _ hz.symm h, ?_, q⟩⟩
    by_cases z : T = S
    · subst z; exact hs o ho
    · exact ⟨o, hk _ _ z ho⟩
theorem zip_next {Q : Option Value → Shared → Prop} (S : ZipSep2 z TI TO i1 i2 fp1 fp2) (D1 : Draws prog w A.in1 i1 fp1 n1 P1 St1) (D2 : Draws prog w A.in1 i2 fp2 n2 P2 St2)
    (hz : ZAny s.heap z TI TO i1 i2) (hTz : TI ≠ z) (st1 : St1 i s.heap) (st2 : St2 i s.heap) (hlt1 : i < n1) (hlt2 : i < n2)
    (hTO : TO < s.heap.objs.size)
    (hQ : ∀ x1 x2 h' tk, P1 i x1 → P2 i x2 → ZAny h' z TI TO i1 i2 → St1 (i + 1) h' → St2 (i + 1) h' → IsTupOf2 h' s.heap.objs.size x1 x2 →
      (∀ c o, c ≠ z → c ≠ TO → c ≠ i1 → c ≠ i2 → s.heap.get? c = some o → h'.get? c = some o) → Q (some (.ref s.heap.objs.size)) { s with heap := h', toks := tk }) : wpAny (model prog w) A (pyNext (.ref z)) Q E s := by
  have hzl := hz.lt
  have hil1 : i1 < s.heap.objs.size := by obtain ⟨_, q⟩ := D1.live _ _ st1; exact Heap.lt_size q
  have hil2 : i2 < s.heap.objs.size := by obtain ⟨_, q⟩ := D2.live _ _ st2; exact Heap.lt_size q
  rcases id hz with ⟨hTI, ⟨h0, a1, a2, hO⟩ | ⟨T, b, h0, hal, z1, z2, z3, z4⟩⟩
  · exact wpAny_pyNext_zipD2_item S D1 D2 h0 hTI hO st1 st2 hlt1 hlt2 fun x1 x2 h' tk p1 p2 hz' hO' s1 s2 hT hsz hk =>
      hQ x1 x2 h' tk p1 p2 ⟨hk _ _ hTz S.TITO S.TIi1 S.TIi2 hTI, .inr ⟨_, false, hz', ⟨_, hT⟩, Nat.ne_of_gt hzl, Nat.ne_of_gt hil1, Nat.ne_of_gt hil2, Nat.ne_of_gt hTO⟩⟩ s1 s2 hT hk
  · unfold pyNext
    exact wpAny_bind (wpAny_attempt (wpAny_callSpecial?_slot (name := Str.ofString "__next__") hz.typeIs F.slot_zip_next (wpAny_call_entry F.slot_zip_next hz.typeIs F.entry_zip_next
      (zip_again S D1 D2 h0 hal hTI hTz st1 st2 hlt1 hlt2 fun x1 x2 h' tk p1 p2 hz' s1 s2 hT hk => wpAny_pure (hQ x1 x2 h' tk p1 p2 ⟨hk _ _ hTz S.TIi1 S.TIi2 hTI, .inr ⟨T, true, hz', let ⟨o, q⟩ := hal; ⟨o, hk _ _ z1 z2 z3 q⟩, z1, z2, z3, z4⟩⟩ s1 s2 hT fun c o c0 _ c1 c2 q => hk c o c0 c1 c2 q)) (F.args_zip_next_1 _))))
theorem zip_stop {Q : Option Value → Shared → Prop} (S : ZipSep2 z TI TO i1 i2 fp1 fp2) (D1 : Draws prog w A.in1 i1 fp1 n1 P1 St1) (D2 : Draws prog w A.in1 i2 fp2 n1 P2 St2)
    (hz : ZAny s.heap z TI TO i1 i2) (st1 : St1 n1 s.heap) (st2 : St2 n1 s.heap) (hQ : ∀ h' tk, (∀ c o, c ≠ z → c ≠ TO → c ≠ i1 → c ≠ i2 → s.heap.get? c = some o → h'.get? c = some o) → Q none { s with heap := h', toks := tk }) : wpAny (model prog w) A (pyNext (.ref z)) Q E s := by
  rcases id hz with ⟨hTI, ⟨h0, a1, a2, hO⟩ | ⟨T, b, h0, hal, z1, z2, z3, z4⟩⟩
  · exact wpAny_pyNext_zipD2_end S D1 D2 h0 hTI hO st1 st2 (Nat.le_refl _) (Nat.le_refl _) (.inl rfl) hQ
  · unfold pyNext
    refine wpAny_bind (wpAny_attempt (wpAny_callSpecial?_slot (name := Str.ofString "__next__") hz.typeIs F.slot_zip_next (wpAny_call_entry F.slot_zip_next hz.typeIs F.entry_zip_next ?_ (F.args_zip_next_1 _))))
    obtain ⟨hp, g, d, tk0, os⟩ := s; show wpAny _ _ (field (.ref z) 2 >>= _) _ _ _
    refine wpAny_bind (wpAny_field h0 rfl (x := .bool false) rfl ?_)
    show wpAny _ _ (field (.ref z) 3 >>= _) _ _ _; refine wpAny_bind (wpAny_field h0 rfl (x := .ref TI) rfl ?_)
    refine wpAny_bind (wpAny_seqItems hTI rfl ?_); show wpAny _ _ (Builtin.SmallTypes.ownedTupleIsFree (.ref z) >>= _) _ _ _
    refine wpAny_bind (zip_busy h0 hal fun h1 hz1 hs1 => ?_)
    replace hs1 : Heap.SameBut z hp h1 := hs1
    simp only [Bool.false_eq_true, if_false, List.forIn_toArray, List.forIn_cons, List.forIn_nil]
    refine wpAny_bind (wpAny_bind (wpAny_bind (wpAny_holding ?_)))
    show wpAny _ _ (Builtin.SmallTypes.nextOf (.ref i1) >>= _) _ _ ⟨h1, g, d, tk0, os⟩
    refine wpAny_bind (D1.done _ _ _ (D1.over st1 hs1 S.zf1) fun q e hq he => ?_)
    replace hq : Heap.ExtBut i1 h1 q := hq
    obtain ⟨o, ho, hc⟩ := he
    refine wpAny_bind (wpAny_isInstance (T := "StopIteration") (b := true) ⟨o, ho, hc⟩ isSubtype_stop ?_); exact wpAny_pure (hQ _ _ fun c o c0 _ c1 _ r => hq _ _ c1 (hs1.extBut _ _ c0 r))
end
section
variable {X : Cx} {pins : List (Addr × Obj)} {σ : L2.St} {A : Around}
theorem zip_loop {z TI TO i1 i2 a S : Addr} {x : Str} {t : Tok} {xs : List V} {its : List Value} {Pv : Nat → Hp → List V → Prop} {R : Result → Shared → Prop} {res : Value}
    (hA : A.handled = none) (rv : Vals xs its) (hzl : xs.length ≤ sizeLine) (hnx : x.cps.size = its.toArray.size) (Z : ZipSep2 z TI TO i1 i2 [i1] [i2, a]) (hSz : S ≠ z) (hSI : S ≠ TI) (hSO : S ≠ TO) (hS1 : S ≠ i1) (hS2 : S ≠ i2) (hSa : S ≠ a) (hTz : TI ≠ z) (ha2 : a ≠ i2) (haz : a ≠ z) (haO : a ≠ TO) (ha1 : a ≠ i1)
    (step : ∀ (i : Nat) H vs c y T, Pv i H vs → x.cps[i]? = some c → xs[i]? = some y → H T = none → Pv (i + 1) (upd H T (.tup [.str ⟨#[c]⟩, y])) (vs ++ [.ref T]))
    (fin : ∀ H vs s, L2.Inv X pins σ (upd H S (.lst vs)) s → H S = none → Pv its.toArray.size H vs → R (.ok (.ret res)) s) :
    ∀ (k i : Nat) (s : Shared) (H : Hp) (vs : List V), its.toArray.size - i = k → i ≤ its.toArray.size → L2.Inv X pins σ (upd H S (.lst vs)) s → H S = none → FpOk X pins (upd H S (.lst vs)) z → FpOk X pins (upd H S (.lst vs)) TO → FpOk X pins (upd H S (.lst vs)) i1 → FpOk X pins (upd H S (.lst vs)) i2 → Pv i H vs → vs.length = i →
      ZAny s.heap z TI TO i1 i2 → TO < s.heap.objs.size → s.heap.IsStrIter i1 (strIterType x) x t i → s.heap.IsTupleIter i2 a i → s.heap.IsTuple a its.toArray → codeAny (model X.prog X.w) A (.builtin "list.extend.loop" ⟨[.ref S, .ref z, res], []⟩) R s := by
  have D1 := Draws.text (prog := X.prog) (w := X.w) (A := A.in1.in1) (show A.in1.in1.handled = none from hA) i1 x t
  have D2 := Draws.tuple (prog := X.prog) (w := X.w) (A := A.in1.in1) (show A.in1.in1.handled = none from hA) i2 a ha2 its.toArray
  intro k
  induction k with
  | zero =>
    intro i s H vs hk hi I hn fz fO f1 f2 hp hl hz hO hs1 hit ht
    obtain rfl : i = its.toArray.size := by omega
    refine codeAny_builtin F.entry_extend_loop ?_; rw [Around.under_plainId F.plain_extend_loop _]
    show wpAny _ A.in1 (pyNext (.ref z) >>= _) _ _ s
    rw [← hnx] at hs1
    have D2' := D2; rw [← hnx] at D2'
    refine wpAny_bind (zip_stop Z D1 D2' hz hs1 ⟨by rw [hnx]; exact hit, ht⟩ fun h' tk hx => ?_)
    refine wpAny_pure (fin H vs _ (I.turnedL (t' := tk) (ch := [z, TO, i1, i2]) (fun b o hb q => hx b o (fun z => hb (by simp [z])) (fun z => hb (by simp [z])) (fun z => hb (by simp [z])) (fun z => hb (by simp [z])) q) ?_) hn hp)
    intro b hb
    rcases (List.mem_cons.mp hb) with rfl | hb
    · exact fz
    rcases (List.mem_cons.mp hb) with rfl | hb
    · exact fO
    rcases (List.mem_cons.mp hb) with rfl | hb
    · exact f1
    · rw [List.mem_singleton.mp hb]; exact f2
  | succ k ih =>
    intro i s H vs hk hi I hn fz fO f1 f2 hp hl hz hO hs1 hit ht
    have hlt : i < its.toArray.size := by omega
    have hlx : i < xs.length := by rw [rv.length, ← List.size_toArray]; exact hlt
    refine codeAny_builtin F.entry_extend_loop ?_; rw [Around.under_plainId F.plain_extend_loop _]
    show wpAny _ A.in1 (pyNext (.ref z) >>= _) _ _ s
    refine wpAny_bind (zip_next Z D1 D2 hz hTz hs1 ⟨hit, ht⟩ (by rw [hnx]; exact hlt) hlt hO fun x1 y h' tk hy1 hy hz' hs1' hst hT hk' => ?_)
    obtain ⟨hit', ht'⟩ := hst
    obtain ⟨c, u1, hc, rfl⟩ := hy1
    have hzl' : z < s.heap.objs.size := hz.lt
    have hl1 : i1 < s.heap.objs.size := (by obtain ⟨_, q, _⟩ := hs1; exact Heap.lt_size q)
    have hl2 : i2 < s.heap.objs.size := (by obtain ⟨_, q, _⟩ := hit; exact Heap.lt_size q)
    have hSl : S < s.heap.objs.size := by
      obtain ⟨_, _, _, _, q⟩ := (show ObjOk X.prog X.w _ s.heap S (.lst vs) from I.hok S _ upd_same)
      exact Heap.lt_size q
    have hTS : s.heap.objs.size ≠ S := Nat.ne_of_gt hSl
    have hy : its.toArray[i]? = some y := hy
    obtain ⟨u, hu, ru⟩ := rv.get (List.getElem?_eq_getElem hlx)
    have : y = u := by
      rw [List.getElem?_toArray] at hy
      rw [hu] at hy; cases hy; rfl
    subst this
    have new : ObjOk X.prog X.w (upd (upd H S (.lst vs)) s.heap.objs.size (.tup [.str ⟨#[c]⟩, xs[i]])) h' s.heap.objs.size (.tup [.str ⟨#[c]⟩, xs[i]]) :=
      ⟨by show 2 ≤ sizeLine; decide, [.str ⟨#[c]⟩ u1, y], .cons ⟨_, rfl⟩ (.cons ru .nil), ⟨_, hT, rfl, _, rfl⟩⟩
    have I1 : L2.Inv X pins σ (upd (upd H S (.lst vs)) s.heap.objs.size (.tup [.str ⟨#[c]⟩, xs[i]])) { s with heap := h', toks := tk } :=
      I.turnedNew (ch := [z, TO, i1, i2]) (fun b ob hb q => hk' b ob (fun z => hb (by simp [z])) (fun z => hb (by simp [z])) (fun z => hb (by simp [z])) (fun z => hb (by simp [z])) q) (fun b hb => by
        rcases (List.mem_cons.mp hb) with rfl | hb
        · exact fz
        rcases (List.mem_cons.mp hb) with rfl | hb
        · exact fO
        rcases (List.mem_cons.mp hb) with rfl | hb
        · exact f1
        · rw [List.mem_singleton.mp hb]; exact f2) (Nat.le_refl _) new
    have hn1 : (upd H S (.lst vs)) s.heap.objs.size = none := I.hok.fresh (Nat.le_refl _)
    have hnT : H s.heap.objs.size = none := by rw [upd_ne hTS] at hn1; exact hn1
    rw [upd_swap hTS.symm] at I1
    obtain ⟨hzl2, us, cc, ru2, gS⟩ := (show ObjOk X.prog X.w _ h' S (.lst vs) from I1.hok S _ upd_same)
    have hul : us.length = i := by rw [← ru2.length]; exact hl
    refine wpAny_bind ?_
    refine wpAny_updateSeq (s := { s with heap := h', toks := tk }) gS rfl (wpAny_pure ⟨plainId_quiet F.plain_extend_loop _, ?_⟩) (by rw [List.size_toArray, hul]; omega) (by show (us.toArray.push _).size ≤ sizeLine + 1; rw [Array.size_push, List.size_toArray, hul]; omega)
    have hS2' := Heap.get?_update_self (Obj.mapSeq (·.push (Value.ref s.heap.objs.size))) gS rfl
    have oth : ∀ b o, b ≠ S → h'.get? b = some o → (h'.update S (Obj.mapSeq (·.push (Value.ref s.heap.objs.size)))).get? b = some o := fun b o hb q => (Heap.get?_update_other _ _ (Ne.symm hb)).trans q
    have I2 := I1.write (x := S) (e := S) (o := .lst (vs ++ [.ref s.heap.objs.size])) (t' := tk) (h' := h'.update S (Obj.mapSeq (·.push (Value.ref s.heap.objs.size)))) (by rw [upd_same]; trivial) (.inl rfl) oth ⟨_, hS2'⟩
      ⟨by rw [List.length_append, hl]; show i + 1 ≤ sizeLine; omega, us ++ [.ref s.heap.objs.size], _, ru2.append (.cons (show L2.RelV (.ref s.heap.objs.size) (.ref s.heap.objs.size) from rfl) .nil), by rw [← List.push_toArray]; exact hS2'⟩
    rw [upd_twice] at I2
    have fp : ∀ {b : Addr}, S ≠ b → b < s.heap.objs.size → FpOk X pins (upd H S (.lst vs)) b → FpOk X pins (upd (upd H s.heap.objs.size (.tup [.str ⟨#[c]⟩, xs[i]])) S (.lst (vs ++ [.ref s.heap.objs.size]))) b := fun hb hlt' f => by
      obtain ⟨f0, f⟩ := f
      refine ⟨?_, f⟩
      rw [upd_ne hb.symm] at f0 ⊢
      rw [upd_ne (Nat.ne_of_lt hlt')]; exact f0
    have hsz' : s.heap.objs.size < h'.objs.size := Heap.lt_size hT
    have hTOl : TO < (h'.update S (Obj.mapSeq (·.push (Value.ref s.heap.objs.size)))).objs.size := by rw [Heap.size_update]; exact Nat.lt_trans hO hsz'
    refine ih (i + 1) _ _ _ (by omega) hlt I2 (by rw [upd_ne hTS.symm]; exact hn) (fp hSz hzl' fz) (fp hSO hO fO) (fp hS1 hl1 f1) (fp hS2 hl2 f2) (step i H vs c _ _ hp hc (List.getElem?_eq_getElem hlx) hnT) (by rw [List.length_append, hl]; rfl) (hz'.keep hSz hSI hSO oth fun o q => ⟨_, hS2'⟩) hTOl ?_ (hit'.at fun o q => oth _ _ hS2.symm q) (ht'.at fun o q => oth _ _ hSa.symm q)
    obtain ⟨o, q, r⟩ := hs1'
    exact ⟨o, oth _ _ hS1.symm q, r⟩
end
theorem zip_nolen : typeLookup (.type "zip") "__len__" = pure none := by rw [typeLookup_type, builtinLookup_eq_fast]; kernel_rfl
theorem zip_nohint : typeLookup (.type "zip") "__length_hint__" = pure none := by rw [typeLookup_type, builtinLookup_eq_fast]; kernel_rfl
theorem hint_zip {prog : Program} {w : World} {A : Around} {E : Value → Shared → Prop} {s : Shared} {e : Addr} {Q : Bool → Shared → Prop} (hT : s.TypeIs (.ref e) "zip") (h : Q true s) : wpAny (model prog w) A (Builtin.List.listLengthHint (.ref e)) Q E s := by
  (unfold Builtin.List.listLengthHint)
  refine wpAny_bind (wpAny_specialOf hT zip_nolen ?_)
  show wpAny _ _ (specialOf (Value.ref e) (Str.ofString "__length_hint__") >>= _) _ _ _
  refine wpAny_bind (wpAny_specialOf hT zip_nohint ?_)
  exact wpAny_pure h
/-- list(zip(a text, a tuple)) -/
def tLstZip (K : PySem.W.Frag) (ta : TA) : TE := fun σ H Q => ta σ H fun vs H1 => ∃ (x : Str) (a : Addr) (xs : List V) (Pv : Nat → Hp → List V → Prop), vs = [.str x, .ref a] ∧ SqT K H1 a xs ∧ x.cps.size = xs.length ∧ Pv 0 H1 [] ∧
  (∀ (i : Nat) H vs c y T, Pv i H vs → x.cps[i]? = some c → xs[i]? = some y → H T = none → Pv (i + 1) (upd H T (.tup [.str ⟨#[c]⟩, y])) (vs ++ [.ref T])) ∧ ∀ H vs q, Pv xs.length H vs → H q = none → Q (.ref q) (upd H q (.lst vs))
theorem pe_lstZip {X : Cx} {e e2 : Expr} {ta : TA} {p p2 pos pos2 : Pos} (hc : X.calm = true) (hg : Gl X "list") (hm : X.mg "list" = none) (hg2 : Gl X "zip") (hm2 : X.mg "zip" = none) (ha : PA X [e, e2] ta)
    (hs : starEach [e, e2] X.env = (false, eval e X.env) :: starEach [e2] X.env := by rfl) (hpl : (backTo pos2 (starEach [e2] X.env)).any (·.1) = false := by rfl)
    (hs2 : starEach [.Call (.Name "zip" p2) [e, e2] [] pos2] X.env = (false, eval (.Call (.Name "zip" p2) [e, e2] [] pos2) X.env) :: starEach [] X.env := by rfl) :
    PE X (.Call (.Name "list" p) [.Call (.Name "zip" p2) [e, e2] [] pos2] [] pos) (tLstZip X.K ta) := by
  refine ⟨fun pins s σ H Q I h => ?_⟩; refine Call_ (ld_blt I hg hm boot_list (PyProof.Rows.callWith_type1 (args_cons (Call_ (ld_blt I hg2 hm2 PyProof.Rows.boot_zip (PyProof.Rows.callWith_type1 (thn (ha.run pos2 pins s σ H _ I h) fun us s1 ⟨vs, H1, I1, r1, q1⟩ => ?_) hs hpl))) hs2) hs2 rfl))
  obtain ⟨x, a, xs, Pv, rfl, hq, hnx, h0, step, fin⟩ := q1
  obtain ⟨u1, u2, rfl, w1, w2⟩ := Vals.two r1
  obtain ⟨t, rfl⟩ : ∃ t, u1 = Value.str x t := w1
  obtain rfl : u2 = Value.ref a := w2
  obtain ⟨its, rv, p', hz0⟩ := I1.tuple hq
  have hlen := rv.length
  have htup : s1.heap.IsTuple a its.toArray := p'
  have hal : a < s1.heap.objs.size := by obtain ⟨o, ho, _⟩ := id htup; exact Heap.lt_size ho
  refine zip_begins2 (begins_text x t) (begins_tuple a its.toArray) trivial htup fun h' hz hTI hTO h1 h2 hsz hk => args_nil ?_
  have I3 : L2.Inv X pins σ H1 { s1 with heap := h' } := I1.kept (t' := s1.toks) hk
  have f : ∀ {b : Addr}, s1.heap.objs.size ≤ b → FpOk X pins H1 b := fun hb => I1.fpOk hb (I1.hok.fresh hb)
  have hn : H1 h'.objs.size = none := I3.hok.fresh (Nat.le_refl _)
  refine own_begin (T := "zip") (s := { s1 with heap := h' }) (fun h2 k2 => ⟨_, k2 _ _ hz, rfl⟩) (by decide) (by decide) (fun A E Q h2 k2 q => wpAny_pyIter_zip (s := { s1 with heap := h2 }) (k2 _ _ hz) q)
    (fun A E Q h2 k2 q => hint_zip (s := { s1 with heap := h2 }) ⟨_, k2 _ _ hz, rfl⟩ (q true s1.toks (Nat.le_refl _))) (by show s1.heap.objs.size + 4 < h'.objs.size; omega) fun h3 tk c k2 hS => ?_
  have hS : h3.get? h'.objs.size = some { cls := .type "list", data := .seq #[] c } := hS
  have I4 : L2.Inv X pins σ (upd H1 h'.objs.size (.lst [])) { s1 with heap := h3, toks := tk } := I3.laid (t' := tk) k2 (Nat.le_refl _) ⟨Nat.zero_le _, [], c, .nil, hS⟩
  have Z : ZipSep2 (s1.heap.objs.size + 4) (s1.heap.objs.size + 2) (s1.heap.objs.size + 3) s1.heap.objs.size (s1.heap.objs.size + 1) [s1.heap.objs.size] [s1.heap.objs.size + 1, a] := zip_sep2 (fp1 := []) (fp2 := [a]) (fun b hb => nomatch hb) (fun b hb => by rw [List.mem_singleton.mp hb]; exact hal)
  have ff : ∀ {b : Addr}, s1.heap.objs.size ≤ b → b ≠ h'.objs.size → FpOk X pins (upd H1 h'.objs.size (.lst [])) b := fun hb hn => by
    obtain ⟨f0, f⟩ := f hb
    exact ⟨by rw [upd_ne hn]; exact f0, f⟩
  have hsl : h'.objs.size < h3.objs.size := Heap.lt_size hS
  refine zip_loop (X := X) (pins := pins) (σ := σ) (z := s1.heap.objs.size + 4) (TI := s1.heap.objs.size + 2) (TO := s1.heap.objs.size + 3) (i1 := s1.heap.objs.size) (i2 := s1.heap.objs.size + 1) (a := a) (S := h'.objs.size) (x := x) (t := t) (xs := xs) (its := its) (Pv := Pv) (show X.A.in1.handled = none from I1.ok.hd hc) rv hz0 (by rw [hnx, List.size_toArray, hlen]) Z
    (Nat.ne_of_gt (show s1.heap.objs.size + 4 < h'.objs.size by omega)) (Nat.ne_of_gt (show s1.heap.objs.size + 2 < h'.objs.size by omega)) (Nat.ne_of_gt (show s1.heap.objs.size + 3 < h'.objs.size by omega)) (Nat.ne_of_gt (show s1.heap.objs.size < h'.objs.size by omega)) (Nat.ne_of_gt (show s1.heap.objs.size + 1 < h'.objs.size by omega)) (Nat.ne_of_gt (Nat.lt_of_lt_of_le hal (show s1.heap.objs.size ≤ h'.objs.size by omega))) (Nat.ne_of_lt (show s1.heap.objs.size + 2 < s1.heap.objs.size + 4 by omega)) (Nat.ne_of_lt (Nat.lt_of_lt_of_le hal (Nat.le_add_right _ 1))) (Nat.ne_of_lt (Nat.lt_of_lt_of_le hal (Nat.le_add_right _ 4))) (Nat.ne_of_lt (Nat.lt_of_lt_of_le hal (Nat.le_add_right _ 3))) (Nat.ne_of_lt hal) step
    (fun H vs s3 I5 hn5 hp => ⟨rfl, .ref h'.objs.size, _, I5, rfl, fin H vs _ (by rw [hlen, ← List.size_toArray]; exact hp) hn5⟩) its.toArray.size 0 _ H1 [] (by omega) (Nat.zero_le _) I4 hn (ff (show s1.heap.objs.size ≤ s1.heap.objs.size + 4 by omega) (Nat.ne_of_lt (show s1.heap.objs.size + 4 < h'.objs.size by omega))) (ff (show s1.heap.objs.size ≤ s1.heap.objs.size + 3 by omega) (Nat.ne_of_lt (show s1.heap.objs.size + 3 < h'.objs.size by omega))) (ff (show s1.heap.objs.size ≤ s1.heap.objs.size by omega) (Nat.ne_of_lt (show s1.heap.objs.size < h'.objs.size by omega))) (ff (show s1.heap.objs.size ≤ s1.heap.objs.size + 1 by omega) (Nat.ne_of_lt (show s1.heap.objs.size + 1 < h'.objs.size by omega))) h0 rfl
    ⟨k2 _ _ hTI, .inl ⟨k2 _ _ hz, _, _, k2 _ _ hTO⟩⟩ (by show s1.heap.objs.size + 3 < h3.objs.size; omega) ⟨_, k2 _ _ h1, rfl, rfl⟩ ⟨_, k2 _ _ h2, rfl, rfl⟩ ?_
  obtain ⟨o, ho, r⟩ := htup
  exact ⟨o, k2 _ _ (hk _ _ ho), r⟩
/-- signs and items in pairs -/
def pairD : List Nat → List D → List D
  | c :: r, d :: ds => .tup [.str ⟨#[c]⟩, d] :: pairD r ds
  | _, _ => []
def gLstZip : List D → Sto → Res D := fun ds S => match ds with
  | [.str x, d] => (match tupV d with
    | some xs => guard (Nat.beq x.cps.toList.length xs.length) (.ok (.ref S.nx) (S.new (.lst (pairD x.cps.toList xs))))
    | none => .bad)
  | _ => .bad
def dLstZip (fr : DA) : DE := fun Γ S => (fr Γ S).bind gLstZip
theorem pairD_take : ∀ (cs : List Nat) (xs : List D) (i : Nat) (c : Nat) (x : D), cs[i]? = some c → xs[i]? = some x → pairD (cs.take (i + 1)) (xs.take (i + 1)) = pairD (cs.take i) (xs.take i) ++ [.tup [.str ⟨#[c]⟩, x]]
  | [], _, i, c, x, h, _ => by simp at h
  | _ :: _, [], i, c, x, _, h => by simp at h
  | c0 :: cs, y :: r, 0, c, x, h, h' => by
    have h : some c0 = some c := h
    have h' : some y = some x := h'
    cases h; cases h'; rfl
  | c0 :: cs, y :: r, i + 1, c, x, h, h' => by
    show D.tup [.str ⟨#[c0]⟩, y] :: pairD (cs.take (i + 1)) (r.take (i + 1)) = (D.tup [.str ⟨#[c0]⟩, y] :: pairD (cs.take i) (r.take i)) ++ _
    rw [pairD_take cs r i c x h h']; rfl
theorem xlstZip {X : Cx} {C : Cfg} {W : XK} {e e2 : Expr} {fr : DA} {p p2 pos pos2 : Pos} (hK : X.K = C.K) (hc : X.calm = true) (hg : Gl X "list") (hm : X.mg "list" = none) (hg2 : Gl X "zip") (hm2 : X.mg "zip" = none) (ha : PA X [e, e2] (tA C W fr))
    (hs : starEach [e, e2] X.env = (false, eval e X.env) :: starEach [e2] X.env := by rfl) (hpl : (backTo pos2 (starEach [e2] X.env)).any (·.1) = false := by rfl)
    (hs2 : starEach [.Call (.Name "zip" p2) [e, e2] [] pos2] X.env = (false, eval (.Call (.Name "zip" p2) [e, e2] [] pos2) X.env) :: starEach [] X.env := by rfl) :
    PE X (.Call (.Name "list" p) [.Call (.Name "zip" p2) [e, e2] [] pos2] [] pos) (tE C W (dLstZip fr)) :=
  (pe_lstZip hc hg hm hg2 hm2 ha hs hpl hs2).by fun σ H Q ⟨M, Γ, S, g, s, h⟩ => runA g s h fun M1 ds S1 xs H1 l1 s1 r1 h1 => by
    unfold gLstZip at h1
    split at h1
    · rename_i x d
      obtain ⟨v1, us, rfl, rd1, rt⟩ := r1.cons_inv
      obtain ⟨v2, rfl, rd2⟩ := one_of rt
      cases rd1
      split at h1
      · rename_i ys e1
        obtain ⟨gl, h1⟩ := guard_ok h1
        have gl := Nat.eq_of_beq_eq_true gl
        obtain ⟨a, us, rfl, ha', rl⟩ := tup_of s1 rd2 e1
        refine ⟨x, a, us, fun i H2 vs => ∃ M', M1.le M' ∧ Sim C M' S1 H2 ∧ RepL C M' (pairD (x.cps.toList.take i) (ys.take i)) vs, rfl, hK ▸ ha', by rw [← rl.1, ← gl, Array.length_toList], ⟨M1, .refl M1, s1, .nil⟩, fun i H2 vs c y T ⟨M', l, s2, r⟩ hc' hx hT => ?_, fun H2 vs q ⟨M', l, s2, r⟩ hq => ?_⟩
        · have hi : i < ys.length := by rw [rl.1]; exact (List.getElem?_eq_some_iff.mp hx).1
          have rx := rl.2 i _ _ (List.getElem?_eq_getElem hi) hx
          have lp : M'.le (M'.lay T (.tup [.str ⟨#[c]⟩, y])) := Wd.lay_le (s2.free hT)
          refine ⟨_, l.trans lp, s2.lay hT, ?_⟩
          rw [pairD_take _ ys i c _ (by rw [Array.getElem?_toList]; exact hc') (List.getElem?_eq_getElem hi)]
          have rl2 : RepL C (M'.lay T (.tup [.str ⟨#[c]⟩, y])) [.str ⟨#[c]⟩, ys[i]] [.str ⟨#[c]⟩, y] := .cons (.str _) (.cons (rx.mono (l.trans lp)) .nil)
          exact (r.mono lp).append (.cons (.tup (show upd M'.fz T _ T = _ from upd_same) rl2.1 rl2.2) .nil)
        · have e2 : ys.take us.length = ys := by rw [← rl.1, List.take_length]
          have e3 : x.cps.toList.take us.length = x.cps.toList := by rw [← rl.1, ← gl, List.take_length]
          rw [e2, e3] at r
          exact newSto (h1.mono l) s2 ⟨_, rfl, r⟩ hq
      · exact h1.elim
    · exact h1.elim
end Pd

/-! int(n), abs(n), powers; tuples with empty ones; repr -/
namespace Pd
open L2 PySem PySem.Spec PyProof.Rows

section
variable {X : Cx} {C : Cfg} {W : XK}
def gInt : List D → Sto → Res D := fun ds S => match ds with
  | [.int i] => .ok (.int i) S
  | _ => .bad
theorem cInt : CaD X C W (.type "int") gInt := by
  refine ⟨_, call_int1, fun M S H ds vs Q s r q => ?_⟩
  unfold gInt at q
  split at q
  · obtain ⟨v, rfl, rd⟩ := one_of r
    cases rd
    exact .inl ⟨_, rfl, q.ok s (.int _)⟩
  · exact q.elim
def absI : Int → Int
  | .ofNat n => .ofNat n
  | .negSucc n => .ofNat (n + 1)
theorem absI_eq : ∀ i : Int, absI i = if i < 0 then -i else i
  | .ofNat n => by rw [if_neg (by have := Int.natCast_nonneg n; show ¬ ((n : Int) < 0); omega)]; rfl
  | .negSucc n => by rw [if_pos (Int.negSucc_lt_zero n)]; rfl
def gAbs : List D → Sto → Res D := fun ds S => match ds with
  | [.int i] => .ok (.int (absI i)) S
  | _ => .bad
theorem cAbs : CaD X C W (.builtin "abs") gAbs := by
  refine ⟨_, call_abs, fun M S H ds vs Q s r q => ?_⟩
  unfold gAbs at q
  split at q
  · rename_i i
    obtain ⟨v, rfl, rd⟩ := one_of r
    cases rd
    exact ⟨i, rfl, by rw [← absI_eq]; exact q.ok s (.int _)⟩
  · exact q.elim
def fPow : D → D → Sto → Res D := fun a b S => match a, b with
  | .int i, .int (.ofNat k) => guard (Nat.ble k 1000 && small i) (.ok (.int (i ^ k)) S)
  | _, _ => .bad
theorem oPow : OpD X C W (binaryOp .Pow) fPow := by
  refine ⟨_, op_pow, fun M S H a b x y Q s ra rb q => ?_⟩
  unfold fPow at q
  split at q
  · rename_i i k
    obtain ⟨g, q⟩ := guard_ok q
    obtain ⟨g1, g2⟩ := Bool.and_eq_true_iff.mp g
    cases ra; cases rb
    have h1 : k ≤ 1000 := Nat.le_of_ble_eq_true g1
    have h2 : i.natAbs < 18446744073709551616 := Nat.le_of_ble_eq_true g2
    exact ⟨i, _, rfl, rfl, ⟨Int.natCast_nonneg k, by show (k : Int) ≤ 1000000; omega, by omega⟩, q.ok s (.int _)⟩
  · exact q.elim

/-! ### t + u, whichever is empty -/
def isTu (d : D) : Bool := match tupV d with
  | some _ => true
  | none => false
def catA (a b : D) (xs ys : List D) (S : Sto) : Res D := match xs with
  | [] => .ok b S
  | x :: xs => (match ys with
    | [] => .ok a S
    | y :: ys => .ok (.tup (x :: xs ++ y :: ys)) S)
def fCatA : D → D → Sto → Res D := fun a b S => match tupV a, tupV b with
  | some xs, some ys => guard (lineOk (xs.length + ys.length)) (catA a b xs ys S)
  | _, _ => .bad
theorem oCatA (hK : X.K = C.K) : OpD X C W (binaryOp .Add) fCatA := by
  refine ⟨_, op_catA, fun M S H a b x y Q s ra rb q => ?_⟩
  unfold fCatA at q
  split at q
  · rename_i xs ys e1 e2
    obtain ⟨g, q⟩ := guard_ok q
    obtain ⟨l, vs, rfl, h1, r1⟩ := tup_of s ra e1
    obtain ⟨m, ws, rfl, h2, r2⟩ := tup_of s rb e2
    unfold catA at q
    refine ⟨l, m, vs, ws, rfl, rfl, hK ▸ h1, hK ▸ h2, by rw [← r1.1, ← r2.1]; exact lineOk_ok g, fun z => ?_, fun z z' => ?_, fun z z' p hp => ?_⟩
    · subst z
      cases xs with
      | nil => exact q.ok s rb
      | cons _ _ => exact absurd r1.1 (by simp)
    · subst z'
      cases xs with
      | nil => exact absurd (r1.nil_inv) z
      | cons _ _ =>
        cases ys with
        | nil => exact q.ok s ra
        | cons _ _ => exact absurd r2.1 (by simp)
    · cases xs with
      | nil => exact absurd (r1.nil_inv) z
      | cons _ _ =>
        cases ys with
        | nil => exact absurd (r2.nil_inv) z'
        | cons _ _ => exact newTup q s (r1.append r2) hp
  · exact q.elim
def fAddA : D → D → Sto → Res D := fun a b S => match isTu a with
  | true => fCatA a b S
  | false => fAdd a b S
theorem oAddA (hK : X.K = C.K) : OpD X C W (binaryOp .Add) fAddA := (oCatA hK).or (oAdd hK) fun a _ _ => isTu a

/-! ### t[lo:hi], the whole of it too -/
def fSlA (a : D) (lo hi : Option Int) (S : Sto) : Res D := match tupV a with
  | some ds => (match partD ds.length lo hi with
    | true => .ok (.tup (cutD ds lo hi)) S
    | false => .ok a S)
  | none => .bad
def dSlA (fa : DE) (fl fh : DO) : DE := fun Γ S => (fa Γ S).bind fun a S1 => (fl Γ S1).bind fun lo S2 => (fh Γ S2).bind fun hi S3 => fSlA a lo hi S3
theorem xslA {e : Expr} {lo hi : Option Expr} {p2 pos : Pos} {fa : DE} {fl fh : DO} (hK : X.K = C.K) (he : PE X e (tE C W fa)) (hl : PtD X C W lo fl) (hh : PtD X C W hi fh) : PE X (.Subscript e (.Slice lo hi none p2) pos) (tE C W (dSlA fa fl fh)) := by
  obtain ⟨tl, h1, k1⟩ := hl
  obtain ⟨th, h2, k2⟩ := hh
  refine (pe_slice sl_tupA he h1 h2).by fun σ H Q ⟨M, Γ, S, g, s, h⟩ => run1 g s h fun M1 a S1 x H1 l1 s1 r1 h1 => ?_
  refine runO (lo := lo) k1 (g.mono l1) s1 h1 fun M2 lo S2 H2 l2 s2 h2 => runO (lo := hi) k2 (g.mono (l1.trans l2)) s2 h2 fun M3 hi S3 H3 l3 s3 h3 => ?_
  have r3 := r1.mono (l2.trans l3)
  rw [hK]
  unfold fSlA at h3
  split at h3
  · rename_i ds e
    obtain ⟨p, vs, rfl, hs, rl⟩ := tup_of s3 r3 e
    refine ⟨p, vs, rfl, hs, fun z => ?_, fun z q hq => ?_⟩
    · have gd : partD ds.length lo hi = false := by
        unfold partD
        rw [sixD_eq, sixD_eq, rl.1, z.1, z.2, Nat.beq_refl, Nat.beq_refl]; rfl
      rw [gd] at h3
      exact h3.ok s3 r3
    · have gd : partD ds.length lo hi = true := by
        unfold partD
        rw [sixD_eq, sixD_eq, rl.1]
        cases e1 : Nat.beq (HT.sIx vs.length 0 lo) 0 with
        | false => rfl
        | true =>
          cases e2 : Nat.beq (HT.sIx vs.length vs.length hi) vs.length with
          | false => rfl
          | true => exact absurd ⟨Nat.eq_of_beq_eq_true e1, Nat.eq_of_beq_eq_true e2⟩ z
      rw [gd] at h3
      exact newTup h3 s3 (rl.cut lo hi) hq
  · exact h3.elim

/-! ### != of texts, of a tuple and () -/
def isSS (a b : D) (_ : Sto) : Bool := match a, b with
  | .str _, .str _ => true
  | _, _ => false
def fNeS : D → D → Sto → Res D := fun a b S => match a, b with
  | .str x, .str y => .ok (.bl (!eqS x y)) S
  | _, _ => .bad
theorem oNeS : OpD X C W (compareOp .NotEq) fNeS := by
  refine ⟨_, op_ne, fun M S H a b x y Q s ra rb q => ?_⟩
  unfold fNeS at q
  split at q
  · rename_i u v
    cases ra; cases rb
    refine ⟨rfl, ?_⟩
    have e : decide (V.str u = V.str v) = eqS u v := by
      rw [eqS_eq]
      exact decide_eq_decide.mpr ⟨fun z => V.str.inj z, fun z => by rw [z]⟩
    rw [e]
    exact q.ok s (.bl _)
  · exact q.elim
def rNe0 (K : PySem.W.Frag) : R2 := fun x y H Q => ∃ a b xs, x = .ref a ∧ y = .ref b ∧ SqT K H a xs ∧ SqT K H b [] ∧ Q (.bl (!emptyL xs)) H
theorem op_ne0 (hu : X.A.units + 64 < cLine) : OpR X (compareOp .NotEq) (rNe0 X.K) := by
  intro pins s σ H x y v u Q I rx ry h; obtain ⟨a, b, xs, rfl, rfl, ha, hb, q⟩ := h
  cases rx
  cases ry
  obtain ⟨its, r1, p1, _⟩ := I.tuple ha; obtain ⟨its2, r2, p2, _⟩ := I.tuple hb
  cases r2
  refine PySem.SeqAt.RcNeAt.tuples (e := fun _ => true) p1 p2 (by omega) (fun j h1 h2 => absurd h2 (by simp)) X.prog X.w _ _ ⟨.bl (!emptyL xs), H, I, ?_, q⟩
  show Value.bool _ = Value.bool _
  cases r1 <;> simp [emptyL]
def isE0 (a b : D) (_ : Sto) : Bool := match tupV a, tupV b with
  | some _, some [] => true
  | _, _ => false
def fNe0 : D → D → Sto → Res D := fun a b S => match tupV a, tupV b with
  | some xs, some [] => .ok (.bl (!emptyL xs)) S
  | _, _ => .bad
theorem oNe0 (hK : X.K = C.K) (hu : X.A.units + 64 < cLine) : OpD X C W (compareOp .NotEq) fNe0 := by
  refine ⟨_, op_ne0 hu, fun M S H a b x y Q s ra rb q => ?_⟩
  unfold fNe0 at q
  split at q
  · rename_i xs e1 e2
    obtain ⟨l, vs, rfl, h1, r1⟩ := tup_of s ra e1
    obtain ⟨m, ws, rfl, h2, r2⟩ := tup_of s rb e2
    rw [r2.nil_inv] at h2
    refine ⟨l, m, vs, rfl, rfl, hK ▸ h1, hK ▸ h2, ?_⟩
    have e : emptyL vs = emptyL xs := by
      cases xs with
      | nil => rw [r1.nil_inv] <;> rfl
      | cons x xs => obtain ⟨v, us, rfl, _⟩ := r1.cons_inv; rfl
    rw [e]
    exact q.ok s (.bl _)
  · exact q.elim
def fNeY : D → D → Sto → Res D := fun a b S => match isSS a b S with
  | true => fNeS a b S
  | false => (match isE0 a b S with
    | true => fNe0 a b S
    | false => fNeX a b S)
theorem oNeY (hK : X.K = C.K) (hu : X.A.units + 65 < cLine) : OpD X C W (compareOp .NotEq) fNeY := oNeS.or ((oNe0 hK (by omega)).or (oNeX hK hu) isE0) isSS
end
end Pd

/-! repr of data -/
namespace Pd
open L2 PySem PySem.Spec PyProof.Rows

def keyPy : Key → PyData
  | .inl i => .int i
  | .inr x => .str x
def AllN {α β : Type} (R : α → β → Prop) : List α → List β → Prop
  | [], [] => True
  | a :: r, b :: q => R a b ∧ AllN R r q
  | _, _ => False
def KvN (R : V → PyData → Prop) : List (Key × V) → List (PyData × PyData) → Prop
  | [], [] => True
  | (k, v) :: r, (p, d) :: q => (p = keyPy k ∧ R v d) ∧ KvN R r q
  | _, _ => False
/-- v is the data p, at most n deep -/
def DrN (K : PySem.W.Frag) (H : Hp) : Nat → V → PyData → Prop
  | 0, _, _ => False
  | n + 1, v, p => match p with
    | .none => v = .non
    | .bool b => v = .bl b
    | .int i => v = .int i
    | .str x => v = .str x
    | .list ds => ∃ a xs, v = .ref a ∧ SqL K H a xs ∧ AllN (DrN K H n) xs ds
    | .tuple ds => ∃ a xs, v = .ref a ∧ SqT K H a xs ∧ AllN (DrN K H n) xs ds
    | .dict es => ∃ a kvs, v = .ref a ∧ Rd H a (.dK kvs) ∧ KvN (DrN K H n) kvs es
/-- the written part knows the dict of modules -/
def SysD (K : PySem.W.Frag) : Prop := ∃ o, K.lookup sysModules = some o ∧ o.cls ≠ .type "list"
section
variable {X : Cx} {s : Shared} {pins : List (Addr × Obj)} {σ : L2.St} {H : Hp}
theorem all_reads {R : V → PyData → Prop} (ih : ∀ v p u, R v p → RelV v u → ∃ as, Reads s.heap u p as ∧ sysModules ∉ as) : ∀ {xs : List V} {ds : List PyData} {us : List Value}, AllN R xs ds → Vals xs us → ∃ as, ReadsAll s.heap us ds as ∧ sysModules ∉ as
  | [], [], us, _, r => by cases r; exact ⟨_, .nil, fun h => nomatch h⟩
  | x :: xs, d :: ds, us, h, r => by
    cases r with
    | cons r1 r2 =>
      obtain ⟨as, q1, n1⟩ := ih _ _ _ h.1 r1
      obtain ⟨bs, q2, n2⟩ := all_reads ih h.2 r2
      exact ⟨_, .cons q1 q2, fun z => (List.mem_append.mp z).elim n1 n2⟩
  | [], _ :: _, _, h, _ => h.elim
  | _ :: _, [], _, h, _ => h.elim
theorem kv_reads {R : V → PyData → Prop} (ih : ∀ v p u, R v p → RelV v u → ∃ as, Reads s.heap u p as ∧ sysModules ∉ as) : ∀ {kvs : List (Key × V)} {es : List (PyData × PyData)} {ws : List (Key × Value)} {ds : List DictEntry}, KvN R kvs es → KV kvs ws → Pairs (mixKind X.prog X.w) ds ws →
    (∃ as, ReadsAll s.heap (ds.map (·.key)) (es.map (·.1)) as ∧ sysModules ∉ as) ∧ ∃ bs, ReadsAll s.heap (ds.map (·.val)) (es.map (·.2)) bs ∧ sysModules ∉ bs
  | [], [], ws, ds, _, r, p => by
    cases r; cases p
    exact ⟨⟨_, .nil, fun h => nomatch h⟩, _, .nil, fun h => nomatch h⟩
  | (k, v) :: kvs, (p, d) :: es, ws, ds, h, r, q => by
    obtain ⟨⟨e1, h1⟩, h2⟩ := h
    cases r with
    | cons r1 r2 =>
      cases q with
      | cons q1 q2 q3 =>
        rename_i b0 l0 e0 es0
        obtain ⟨⟨as, x1, n1⟩, bs, x2, n2⟩ := kv_reads ih h2 r2 q3
        obtain ⟨cs, y1, m1⟩ := ih v d _ h1 (q2 ▸ r1.2)
        have e2 := r1.1
        dsimp only at e2
        rw [← e2] at q1
        have ky : ∃ zs, Reads s.heap e0.key p zs ∧ sysModules ∉ zs := by
          subst e1
          rcases keyIs_shape q1 with ⟨i, t, ek, ev⟩ | ⟨x, t, ek, ev⟩
          · rw [ev, ek]; exact ⟨_, .int i t, fun h => nomatch h⟩
          · rw [ev, ek]; exact ⟨_, .str x t, fun h => nomatch h⟩
        obtain ⟨zs, y2, m2⟩ := ky
        exact ⟨⟨_, .cons y2 x1, fun z => (List.mem_append.mp z).elim m2 n1⟩, _, .cons y1 x2, fun z => (List.mem_append.mp z).elim m1 n2⟩
  | [], _ :: _, _, _, h, _, _ => h.elim
  | _ :: _, [], _, _, h, _, _ => h.elim
theorem dr_reads (T : SysD X.K) (I : Inv X pins σ H s) : ∀ (n : Nat) (v : V) (p : PyData) (u : Value), DrN X.K H n v p → RelV v u → ∃ as, Reads s.heap u p as ∧ sysModules ∉ as
  | 0, _, _, _, h, _ => h.elim
  | n + 1, v, p, u, h, r => by
    have ih := dr_reads T I n
    cases p with
    | none => obtain rfl : v = .non := h; cases r; exact ⟨_, .none, fun h => nomatch h⟩
    | bool b => obtain rfl : v = .bl b := h; cases r; exact ⟨_, .bool b, fun h => nomatch h⟩
    | int i => obtain rfl : v = .int i := h; obtain ⟨t, rfl⟩ := r; exact ⟨_, .int i t, fun h => nomatch h⟩
    | str x => obtain rfl : v = .str x := h; obtain ⟨t, rfl⟩ := r; exact ⟨_, .str x t, fun h => nomatch h⟩
    | list ds =>
      obtain ⟨a, xs, rfl, hs, ha⟩ := h
      cases r
      obtain ⟨its, rv, ⟨o, n', ho, hc, _, hd⟩, _⟩ := I.list hs
      obtain ⟨as, q, nm⟩ := all_reads ih ha rv
      refine ⟨a :: as, .list ho hc hd q, fun z => ?_⟩
      rcases (List.mem_cons.mp z) with z | z
      · obtain ⟨o', e', nc⟩ := T
        have := I.kIn _ _ e'
        rw [z, ho] at this
        cases this
        exact nc hc
      · exact nm z
    | tuple ds =>
      obtain ⟨a, xs, rfl, hs, ha⟩ := h
      cases r
      obtain ⟨its, rv, ⟨o, ho, hc, n', hd⟩, _⟩ := I.tuple hs
      obtain ⟨as, q, nm⟩ := all_reads ih ha rv
      exact ⟨_, .tuple ho hc hd q, nm⟩
    | dict es =>
      obtain ⟨a, kvs, rfl, hr, hk⟩ := h
      cases r
      obtain ⟨z, hd, ws, rel, o, ds, ep, ho, ⟨hc, _, _⟩, hdat, _, pr, _⟩ := dk_rd I.hok hr
      obtain ⟨⟨as, q1, n1⟩, bs, q2, n2⟩ := kv_reads (X := X) (s := s) ih hk rel pr
      refine ⟨a :: as ++ bs, .dict ho hc hdat q1 q2, fun z => ?_⟩
      rcases List.mem_cons.mp (show sysModules ∈ a :: (as ++ bs) from z) with z | z
      · rw [← z] at hd; exact absurd hd (by simp)
      · exact (List.mem_append.mp z).elim n1 n2
end
def kvR (f : D → Option PyData) : List (Key × D) → Option (List (PyData × PyData))
  | [] => some []
  | (k, d) :: r => (match f d with
    | some p => (match kvR f r with
      | some es => some ((keyPy k, p) :: es)
      | none => none)
    | none => none)
def toR : Nat → D → Option PyData
  | 0, _ => none
  | n + 1, d => match d with
    | .non => some .none
    | .bl b => some (.bool b)
    | .int i => some (.int i)
    | .str x => some (.str x)
    | .tup ds => (match mapO (toR n) ds with
      | some ps => some (.tuple ps)
      | none => none)
    | .ctp ds => (match mapO (toR n) ds with
      | some ps => some (.tuple ps)
      | none => none)
    | .lst ds => (match mapO (toR n) ds with
      | some ps => some (.list ps)
      | none => none)
    | .dct kvs => (match kvR (toR n) kvs with
      | some es => some (.dict es)
      | none => none)
    | _ => none
theorem mapOR_depth {n : Nat} {f : D → Option PyData} (ih : ∀ d p, f d = some p → p.depth ≤ n) : ∀ {ds : List D} {ps : List PyData}, mapO f ds = some ps → PyData.depthAll ps ≤ n
  | [], ps, h => by cases h; simp [PyData.depthAll]
  | d :: ds, ps, h => by
    unfold mapO at h
    split at h
    · rename_i b e
      split at h
      · rename_i q e2
        cases h
        have h1 := ih _ _ e
        have h2 := mapOR_depth ih e2
        simp only [PyData.depthAll]; omega
      · cases h
    · cases h
theorem kvR_depth {n : Nat} {f : D → Option PyData} (ih : ∀ d p, f d = some p → p.depth ≤ n) : ∀ {ds : List (Key × D)} {ps : List (PyData × PyData)}, kvR f ds = some ps → PyData.depthKv ps ≤ n
  | [], ps, h => by cases h; simp [PyData.depthKv]
  | (k, d) :: ds, ps, h => by
    unfold kvR at h
    split at h
    · rename_i b e
      split at h
      · rename_i q e2
        cases h
        have h1 := ih _ _ e
        have h2 := kvR_depth ih e2
        have h3 : (keyPy k).depth = 0 := by cases k <;> simp [keyPy, PyData.depth]
        simp only [PyData.depthKv]; omega
      · cases h
    · cases h
theorem toR_depth : ∀ (n : Nat) (d : D) (p : PyData), toR n d = some p → p.depth ≤ n
  | 0, _, _, h => by cases h
  | n + 1, d, p, h => by
    unfold toR at h
    split at h
    all_goals first
      | (cases h; simp [PyData.depth]; done)
      | (split at h
         · rename_i e
           cases h
           simp only [PyData.depth]
           first
             | (have := mapOR_depth (toR_depth n) e; omega)
             | (have := kvR_depth (toR_depth n) e; omega)
         · cases h)
      | cases h
section
variable {C : Cfg} {M : Wd} {S : Sto} {H : Hp}
theorem mapO_dr {K : PySem.W.Frag} {n : Nat} {f : D → Option PyData} (ih : ∀ d v p, f d = some p → Rep C M d v → DrN K H n v p) : ∀ {ds : List D} {vs : List V} {ps : List PyData}, mapO f ds = some ps → RepL C M ds vs → AllN (DrN K H n) vs ps
  | [], vs, ps, h, r => by cases h; rw [r.nil_inv]; exact True.intro
  | d :: ds, vs, ps, h, r => by
    obtain ⟨v, us, rfl, h1, r1⟩ := r.cons_inv
    unfold mapO at h
    split at h
    · rename_i b e
      split at h
      · rename_i q e2
        cases h
        exact ⟨ih d v b e h1, mapO_dr ih e2 r1⟩
      · cases h
    · cases h
theorem RepK.cons_inv {k : Key} {d : D} {ds : List (Key × D)} {vs : List (Key × V)} (r : RepK C M ((k, d) :: ds) vs) : ∃ v us, vs = (k, v) :: us ∧ Rep C M d v ∧ RepK C M ds us := by
  cases vs with
  | nil => exact absurd r.1 (by simp)
  | cons w us =>
    obtain ⟨j, v⟩ := w
    have e : k :: ds.map (·.1) = j :: us.map (·.1) := r.1
    obtain ⟨e1, e2⟩ := List.cons.inj e
    subst e1
    exact ⟨v, us, rfl, r.2 0 _ _ _ _ rfl rfl, e2, fun i a b c e h1 h2 => r.2 (i + 1) a b c e (by simpa using h1) (by simpa using h2)⟩
theorem kvR_dr {K : PySem.W.Frag} {n : Nat} {f : D → Option PyData} (ih : ∀ d v p, f d = some p → Rep C M d v → DrN K H n v p) : ∀ {ds : List (Key × D)} {vs : List (Key × V)} {ps : List (PyData × PyData)}, kvR f ds = some ps → RepK C M ds vs → KvN (DrN K H n) vs ps
  | [], vs, ps, h, r => by
    cases h
    cases vs with
    | nil => exact True.intro
    | cons _ _ => exact absurd r.1 (by simp)
  | (k, d) :: ds, vs, ps, h, r => by
    obtain ⟨v, us, rfl, h1, r1⟩ := r.cons_inv
    unfold kvR at h
    split at h
    · rename_i b e
      split at h
      · rename_i q e2
        cases h
        exact ⟨⟨rfl, ih d v b e h1⟩, kvR_dr ih e2 r1⟩
      · cases h
    · cases h
theorem toR_dr (s : Sim C M S H) : ∀ (n : Nat) (d : D) (v : V) (p : PyData), toR n d = some p → Rep C M d v → DrN C.K H n v p
  | 0, _, _, _, h, _ => by cases h
  | n + 1, d, v, p, h, r => by
    have ih := toR_dr s n
    unfold toR at h
    split at h
    · cases h; cases r; exact rfl
    · cases h; cases r; exact rfl
    · cases h; cases r; exact rfl
    · cases h; cases r; exact rfl
    · split at h
      · rename_i e
        cases h
        obtain ⟨a, xs, rfl, hs, rl⟩ := tup_of s r rfl
        exact ⟨a, xs, rfl, hs, mapO_dr ih e rl⟩
      · cases h
    · split at h
      · rename_i e
        cases h
        obtain ⟨a, xs, rfl, hs, rl⟩ := tup_of s r rfl
        exact ⟨a, xs, rfl, hs, mapO_dr ih e rl⟩
      · cases h
    · split at h
      · rename_i e
        cases h
        obtain ⟨a, xs, rfl, hs, rl⟩ := lst_of s r rfl
        exact ⟨a, xs, rfl, hs, mapO_dr ih e rl⟩
      · cases h
    · split at h
      · rename_i e
        cases h
        obtain ⟨a, xs, rfl, hs, rl⟩ := dct_of s r rfl
        exact ⟨a, xs, rfl, hs, kvR_dr ih e rl⟩
      · cases h
    · cases h
end
section
variable {X : Cx} {C : Cfg} {W : XK}
theorem call_reprD (T : SysD X.K) (hg : X.A.guards = some []) (hu : X.A.units + 64 < cLine) : CallR X (.builtin "repr") (fun xs H Q => ∃ v p, xs = [v] ∧ DrN X.K H 20 v p ∧ p.showable = true ∧ p.shown.length ≤ sizeLine ∧ p.depth ≤ 20 ∧ Q (.str p.shown) H) := by
  intro pins s σ H xs us Q I r h; obtain ⟨v, p, rfl, hd, hs, hz, hp, q⟩ := h
  have leaf : ∀ {x : Str} {t : Nat}, p.shown = x → EP X pins σ Q (.str x s.toks) { s with toks := t } := fun e => by
    subst e; exact ⟨.str _, H, I.tok _, ⟨_, rfl⟩, q⟩
  obtain ⟨u, rfl, ru⟩ := vals1 r; have rd := dr_reads T I 20 v p u hd ru
  cases p with
  | none => obtain rfl : v = .non := hd; cases ru; exact PySem.P.repr_of_none (leaf (by simp only [PyData.shown]))
  | bool b => obtain rfl : v = .bl b := hd; cases ru; exact PySem.P.repr_of_bool (leaf (by simp only [PyData.shown]))
  | int i =>
    obtain rfl : v = .int i := hd
    obtain ⟨t, rfl⟩ := ru
    exact PySem.P.repr_of_int (by simpa [PyData.showable] using hs) (leaf (by simp only [PyData.shown]))
  | str x =>
    obtain rfl : v = .str x := hd
    obtain ⟨t, rfl⟩ := ru
    exact PySem.P.repr_of_str (leaf (by simp only [PyData.shown])) (by simpa only [PyData.shown] using hz)
  | list ds =>
    obtain ⟨a, _, rfl, _⟩ := hd
    cases ru
    obtain ⟨as, rr, nm⟩ := rd
    exact repr_of_reads' rr hs (fun _ => nm) hg (by omega) (fun _ _ e => e) (fun h' t tk k => ⟨.str _, H, I.kept (t' := tk) k, ⟨t, rfl⟩, q⟩) hz
  | tuple ds =>
    obtain ⟨a, _, rfl, _⟩ := hd
    cases ru
    obtain ⟨as, rr, nm⟩ := rd
    exact repr_of_reads' rr hs (fun _ => nm) hg (by omega) (fun _ _ e => e) (fun h' t tk k => ⟨.str _, H, I.kept (t' := tk) k, ⟨t, rfl⟩, q⟩) hz
  | dict es =>
    obtain ⟨a, _, rfl, _⟩ := hd
    cases ru
    obtain ⟨as, rr, nm⟩ := rd
    exact repr_of_reads' rr hs (fun _ => nm) hg (by omega) (fun _ _ e => e) (fun h' t tk k => ⟨.str _, H, I.kept (t' := tk) k, ⟨t, rfl⟩, q⟩) hz
def fitsR (p : PyData) : Bool := p.showable && Nat.ble p.shown.length 1000000
def gRepr : List D → Sto → Res D := fun ds S => match ds with
  | [d] => (match toR 20 d with
    | some p => guard (fitsR p) (.ok (.str p.shown) S)
    | none => .bad)
  | _ => .bad
theorem cRepr (hK : X.K = C.K) (T : SysD X.K) (hg : X.A.guards = some []) (hu : X.A.units + 64 < cLine) : CaD X C W (.builtin "repr") gRepr := by
  refine ⟨_, call_reprD T hg hu, fun M S H ds vs Q s r q => ?_⟩
  unfold gRepr at q
  split at q
  · rename_i d
    split at q
    · rename_i p e
      obtain ⟨g, q⟩ := guard_ok q
      obtain ⟨g1, g2⟩ := Bool.and_eq_true_iff.mp g
      obtain ⟨v, rfl, rd⟩ := one_of r
      have hl : p.shown.length ≤ 1000000 := Nat.le_of_ble_eq_true g2
      exact ⟨v, p, rfl, hK ▸ toR_dr s 20 d v p e rd, g1, by rw [sizeLine_eq]; omega, toR_depth 20 d p e, q.ok s (.str _)⟩
    · exact q.elim
  · exact q.elim
end
end Pd

/-! a law whose own def looks at what is under way (repr): its run where nothing is -/
namespace Pd
open L2 PySem PySem.Spec PyProof.Rows

section
variable {P : Program} {w : World} {K : PySem.W.Frag} {mg mb : Str → Option Value} {base : Heap} {x qual : Str} {params : Arguments} {body : List Stmt} {scope : Scope} {f : Addr} {fd : FuncData}
/-- one call of a def, from what its body does there -/
theorem call_at {N ps : List Str} {k : Nat} {A : Around} {outer : List Env} {s : Shared} {H : Hp} {us : List Value} {vs : List V} {Q : VK} {E : XK} (F : FunD K x qual params body scope [] [] f fd) (S : FnScope N ps scope) (hl : vs.length = ps.length) (hr : Room (k + 1) A)
    (e0 : Env0 P w K mg base A outer s H) (hb : BindsTo s fd ⟨us, []⟩ (ps.zip us)) (r : Vals vs us)
    (hbody : ∀ cdv : Value, Room k (A.deeper (envOfC qual scope s.heap.objs.size f cdv)) → ∃ t, PSs (cxOf CX0 P w K mg base N qual scope f cdv A outer s H E) body t ∧ t { nx := fun _ H' => Q .non H', rt := Q } (start N vs) H) :
    codeAny (model P w) A (.call (.ref f) ⟨us, []⟩) (CR CX0 outer P w H s Q E) s := by
  obtain ⟨oc, od, dV, kV, doc, pm, an, cdv, ct, osl, e, lk, hcd, _, _⟩ := F.ex
  subst e
  have old : ∀ b o, base.get? b = some o → s.heap.get? b = some o := fun b o q => (e0.bs b o q).1
  have KS := e0.mod.kin.keeps old
  have hk : ∀ y ∈ ps.zip us, scope.names.lookup y.1 = some .local ∨ (scope.names.lookup y.1 = some .cell ∧ ((cellsFrom (s.heap.objs.size + 1) scope.names []).lookup y.1).isSome = true) := by
    intro y hy
    obtain ⟨z, v⟩ := y
    have hz := (List.of_mem_zip hy).1
    exact (S.par z hz).imp id fun q => ⟨q, PySem.W.cellsFrom_some _ _ _ (.inl q)⟩
  refine codeAny_call_function hr.depth (KS _ _ lk) rfl S.co S.gen rfl (PySem.W.codeRec_of KS hcd) (hb _ _ _ _ (wpAny_newFunctionEnv_cells S.kind hk fun env he s1 q => ?_))
  subst he
  have lim := (e0.mod.nolimit.keeps old).keeps q.toInCall.keep
  obtain ⟨t, ht, hq⟩ := hbody cdv (hr.deeper _)
  have I := inv_start (CX := CX0) (P := P) (w := w) (K := K) (mg := mg) (base := base) (qual := qual) (f := f) (cd := cdv) (E := E) S hr.hd e0 hl r q
  refine ⟨lim, codeAny_func (wpAny_mono (ht.run [] s1 (start N vs) H _ I hq) (fun fl s' hs => ?_) fun _ _ z => z)⟩
  rcases fl with _ | u | _ | _
  · obtain ⟨σ', H', J, q'⟩ := hs
    exact (⟨V.non, H', J.os, J.bare, J.base, J.hok, rfl, q'⟩ : CE outer P w H s Q Value.none s')
  · first
      | (obtain ⟨v, σ', H', J, rv, q'⟩ := hs; exact (⟨v, H', J.os, J.bare, J.base, J.hok, rv, q'⟩ : CE outer P w H s Q u s'))
      | (obtain ⟨_, _, _, q'⟩ := hs; exact q'.elim)
  all_goals first
    | (obtain ⟨_, _, _, q'⟩ := hs; exact q'.elim)
    | (obtain ⟨v, σ', H', J, rv, q'⟩ := hs; exact (⟨v, H', J.os, J.bare, J.base, J.hok, rv, q'⟩ : CE outer P w H s Q _ s'))
end
section
variable {P : Program} {w : World} {K : PySem.W.Frag} {mg mb : Str → Option Value} {fa a : Addr} {s₁ : Shared} {vs : List Value} {ns : List Int} {H : Hp}
/-- the law's call behind the top: nothing is tracked but, perhaps, the script -/
theorem law_at (KX : K.In s₁.heap) (hns : s₁.heap.Ns mainGlobals mg) (hb : s₁.heap.Ns builtinsNs mb) (hbb : ∀ x : Str, x ≠ "__name__" → mb x = bootBuiltins x) (hlim : s₁.heap.NoLimit) (hg : s₁.gens = #[])
    (ha : s₁.heap.get? a = some { cls := .type "list", data := .seq vs.toArray }) (hO : Only H) (hok : HOk P w H s₁.heap) (hA : ∀ b, (∃ o, H b = some o) → b = a) (hK : (∃ o, H a = some o) → K.lookup a = none)
    (run : ∀ base : Heap, K.In base → base.Ns mainGlobals mg → Env0 P w K mg base callerA [] s₁ H → codeAny (model P w) callerA (.call (.ref fa) ⟨[.ref a], []⟩) (CR CX0 [] P w H s₁ (fun v _ => v = .bl true) fun _ _ _ => False) s₁) :
    (codeAny (model P w) callerA (.call (.ref fa) ⟨[.ref a], []⟩) (fun r s' => r = .ok (.ret (.bool true)) ∧ OldK s₁.heap s'.heap ∧ s'.os = s₁.os ∧ AllBare s'.gens) s₁) := by
  have free : ∀ {b : Addr} {o : Obj}, s₁.heap.get? b = some o → (b = a → (∃ u, H a = some u) → False) → H b = none := fun {b o} e n => by
    cases q : H b with
    | none => rfl
    | some u => obtain rfl := hA b ⟨u, q⟩; exact (n rfl ⟨u, q⟩).elim
  have dict : ∀ {b : Addr} {m : Str → Option Value}, s₁.heap.Ns b m → (hidT s₁.heap H).Ns b m := fun {b m} ⟨o, es, ep, e, d, r⟩ => by
    refine ⟨o, es, ep, hidT_get e (free e fun z _ => ?_), d, r⟩
    subst z
    rw [ha] at e
    cases e
    cases d
  have KB : K.In (hidT s₁.heap H) := fun b o e => hidT_get (KX b o e) (free (KX b o e) fun z q => by
    subst z
    rw [hK q] at e
    cases e)
  have md : Mod K mg (hidT s₁.heap H) := ⟨KB, dict hns, ⟨mb, dict hb, hbb⟩, hlim.imp fun mc q => ⟨dict q.1, q.2⟩⟩
  have e0 : Env0 P w K mg (hidT s₁.heap H) callerA [] s₁ H := ⟨rfl, md, fun b o e => of_hidT e, Nat.le_of_eq (hidT_size _ _), True.intro, fun b z => (nomatch z), hok, .of_eq hg⟩
  refine codeAny_mono (run _ KB (dict hns) e0) fun r s' h => ?_
  rcases r with e | fl
  · exact (show False from h).elim
  rcases fl with _ | _ | _ | u
  · exact (show False from h).elim
  · exact (show False from h).elim
  · exact (show False from h).elim
  obtain ⟨v, H', os, bare, un, hok', r', q⟩ := h; subst q
  obtain rfl : u = Value.bool true := r'; refine ⟨rfl, OldK.of_keep fun b o e => ?_, os, bare⟩
  rcases (hO b) with z | ⟨ob, xs, z⟩
  · exact un.keep b o e z (fun q => nomatch q) (fun q => nomatch q)
  · have e1 := (hok b _ z).1
    have e2 := (hok' b _ (un.frzs b ob _ z)).1
    rw [e] at e1
    cases e1
    exact e2
end
theorem walk_G {l : PySem.W.OpenLaw} {n : Nat} {q : Program} {loose : List Str} {XP : (Str → Option Value) → Heap → Prop} {YP : World → Heap → Prop} {d : DefRec} (hn : l.most = some n) (hn2 : n ≤ sizeLine) (hdf : d.params.defaults = []) (F : ∀ (w : World) (mg : Str → Option Value) (fa : Addr) (h : Heap), YP w h → h.Ns mainGlobals mg → mg d.name = some (.ref fa) →
      ∃ K : PySem.W.Frag, K.In h ∧ ∀ (s : Shared) (H : Hp) (a : Addr) (ns : List Int), ns.length ≤ n → SqL K H a (ns.map V.int) → ∀ base : Heap, K.In base → base.Ns mainGlobals mg → Env0 l.prog w K mg base callerA [] s H →
        codeAny (model l.prog w) callerA (.call (.ref fa) ⟨[.ref a], []⟩) (CR CX0 [] l.prog w H s (fun v _ => v = .bl true) fun _ _ _ => False) s) :
    (PySem.W.WalkO q loose XP YP l.row.toRowW d [] (fun f vs => PySem.call f vs)) := by
  refine Att.attach_call hn hdf fun w s₀ s₁ mg mb fa o pm cd doc a vs ns G Y ho hd hcd hmg hobj hints hlen hg => ?_; obtain ⟨K, KX, R⟩ := F w mg fa _ Y G.T.g hmg
  have lv := hints.length
  have hsz : ns.length ≤ sizeLine := Nat.le_trans hlen hn2
  cases hk : K.lookup a with
  | some u =>
    have e := KX a u hk
    rw [hobj] at e
    cases e
    exact law_at (H := fun _ => none) KX G.T.g G.T.b G.T.builtins G.T.nolimit hg hobj (fun _ => .inl rfl) (fun _ _ z => nomatch z) (fun _ z => nomatch z) (fun z => nomatch z) fun base hb hbn e0 =>
      R s₁ _ a ns hlen (.inr ⟨_, vs.toArray, _, hk, rfl, rfl, rfl, by rw [List.size_toArray, lv]; exact hsz, vals_ints hints⟩) base hb hbn e0
  | none =>
    have at_ : (fun b => if b = a then some (HO.frz { cls := .type "list", data := .seq vs.toArray } (.lst (ns.map V.int))) else none : Hp) a = some (.frz { cls := .type "list", data := .seq vs.toArray } (.lst (ns.map V.int))) := if_pos rfl
    refine law_at (H := fun b => if b = a then some (HO.frz { cls := .type "list", data := .seq vs.toArray } (.lst (ns.map V.int))) else none) KX G.T.g G.T.b G.T.builtins G.T.nolimit hg hobj (fun b => ?_) (fun b u z => ?_) (fun b z => ?_) (fun _ => hk) fun base hb hbn e0 =>
      R s₁ _ a ns hlen (.inl (.inr ⟨_, at_⟩)) base hb hbn e0
    · by_cases hba : b = a
      · exact .inr ⟨_, _, if_pos hba⟩
      · exact .inl (if_neg hba)
    · by_cases hba : b = a
      · subst hba
        rw [at_] at z
        cases z
        exact ⟨hobj, by rw [List.length_map]; exact hsz, vs, _, vals_ints hints, hobj⟩
      · have z' := (if_neg hba).symm.trans z
        cases z'
    · obtain ⟨u, z⟩ := z
      by_cases hba : b = a
      · exact hba
      · have z' := (if_neg hba).symm.trans z
        cases z'
section
variable {X : Cx} {C : Cfg} {W : XK}
theorem xneg {i : Int} {j} {pos pos2 : Pos} : PE X (.UnaryOp .USub (.Constant (.int i) j pos) pos2) (tE C W (dC (.int (-i)))) :=
  (pe_un un_neg pe_int).by fun σ H Q ⟨M, Γ, S, g, s, q⟩ => ⟨i, rfl, GoodE.ok (C := C) q s (.int (-i))⟩
theorem iFrz_lstV {S : Sto} : ∀ {d : D} {ds : List D}, iFrz d = some ds → lstV S d = some ds
  | .lst _, _, h => h
  | .frl _, _, h => h
/-- a if t else b, as a test -/
def dIfT (ft fa fb : DT) : DT := fun Γ S => (ft Γ S).bind fun c S1 => match c with
  | true => fa Γ S1
  | false => fb Γ S1
def tIfT (t ta tb : TT) : TT := fun σ H Q => t σ H fun c H1 => (c = true → ta σ H1 Q) ∧ (c = false → tb σ H1 Q)
theorem pt_ifT {c a b : Expr} {t ta tb : TT} {pos : Pos} (hc : PT X c t) (ha : PT X a ta) (hb : PT X b tb) : PT X (.IfExp c a b pos) (tIfT t ta tb) := by
  refine ⟨fun pins s σ H Q I h => ?_⟩; have h : t σ H fun c H1 => (c = true → ta σ H1 Q) ∧ (c = false → tb σ H1 Q) := h
  refine isTrue_IfExp (thn (hc.run pins s σ H _ I h) fun d s1 hh => ?_)
  obtain ⟨H1, I1, q1, q2⟩ := hh
  cases d with
  | true => exact ha.run pins s1 σ H1 Q I1 (q1 rfl)
  | false => exact hb.run pins s1 σ H1 Q I1 (q2 rfl)
theorem xifT {c a b : Expr} {ft fa fb : DT} {pos : Pos} (hc : PT X c (tT C W ft)) (ha : PT X a (tT C W fa)) (hb : PT X b (tT C W fb)) : PT X (.IfExp c a b pos) (tT C W (dIfT ft fa fb)) :=
  (pt_ifT hc ha hb).by fun σ H Q ⟨M, Γ, S, g, s, h⟩ => runTB g s h fun M' a S' H' l s' q => by
    cases a with
    | true => exact ⟨fun _ => ⟨M', Γ, S', g.mono l, s', q⟩, fun z => by cases z⟩
    | false => exact ⟨fun z => (nomatch z), fun _ => ⟨M', Γ, S', g.mono l, s', q⟩⟩
/-- a, b, .. = a list that stands still -/
def gUp (n : Nat) (fr : List D → Ga → Sto → Option Ga) : D → Ga → Sto → Option Ga := fun d Γ S => match iFrz d with
  | some ds => (match lenIs n ds with
    | true => fr ds Γ S
    | false => none)
  | none => none
theorem zunl {vs : List Nat} {es : List Expr} {k n : Nat} {pos : Pos} {fr : List D → Ga → Sto → Option Ga} (hK : X.K = C.K) (hc : X.calm = true) (h : TgDs X C es vs fr) (hn : (assignEach es X.env).length = n := by rfl) (hst : (assignEach es X.env).findIdx? (·.1) = none := by rfl) : TgD X C (.Tuple es k pos) vs (gUp n fr) := by
  obtain ⟨t, ht, k1⟩ := h
  refine ⟨gUnl X.K n t, pg_unl hc ht hn hst, fun M S Γ Γ' σ H d v Q g s r e q => ?_⟩
  unfold gUp at e
  split at e
  · rename_i ds e1
    split at e
    · rename_i el
      obtain ⟨a, xs, rfl, ha, rl⟩ := lst_of s r (iFrz_lstV e1)
      exact ⟨a, xs, rfl, hK ▸ ha, by rw [← rl.1]; exact lenIs_ok el, k1 M S Γ Γ' σ H ds xs Q g s rl e q⟩
    · cases e
  · cases e
end
end Pd

/-! max, min of two ints -/
namespace Pd
open L2 PySem PySem.Spec PyProof.Rows

section
variable {X : Cx} {C : Cfg} {W : XK}
theorem two_of {M : Wd} {d e : D} {vs : List V} (r : RepL C M [d, e] vs) : ∃ v u, vs = [v, u] ∧ Rep C M d v ∧ Rep C M e u := by
  obtain ⟨v, us, rfl, h1, h2⟩ := r.cons_inv
  obtain ⟨u, ws, rfl, h3, h4⟩ := h2.cons_inv
  exact ⟨v, u, by rw [h4.nil_inv], h1, h3⟩
def gMax2 : List D → Sto → Res D := fun ds S => match ds with
  | [.int i, .int j] => (match ltB i j with
    | true => .ok (.int j) S
    | false => .ok (.int i) S)
  | _ => .bad
def gMin2 : List D → Sto → Res D := fun ds S => match ds with
  | [.int i, .int j] => (match ltB j i with
    | true => .ok (.int j) S
    | false => .ok (.int i) S)
  | _ => .bad
theorem cMax2 (hc : X.calm = true) : CaD X C W (.builtin "max") gMax2 := by
  refine ⟨_, call_max2 hc, fun M S H ds vs Q s r q => ?_⟩
  unfold gMax2 at q
  split at q
  · rename_i i j
    obtain ⟨v, u, rfl, rd, rv⟩ := two_of r
    cases rd; cases rv
    refine ⟨i, j, rfl, ?_⟩
    rw [ltB_eq] at q
    by_cases h : j > i
    · rw [if_pos h]
      rw [decide_eq_true (show i < j from h)] at q
      exact q.ok s (.int _)
    · rw [if_neg h]
      rw [decide_eq_false (show ¬ i < j from h)] at q
      exact q.ok s (.int _)
  · exact q.elim
theorem cMin2 (hc : X.calm = true) : CaD X C W (.builtin "min") gMin2 := by
  refine ⟨_, call_min2 hc, fun M S H ds vs Q s r q => ?_⟩
  unfold gMin2 at q
  split at q
  · rename_i i j
    obtain ⟨v, u, rfl, rd, rv⟩ := two_of r
    cases rd; cases rv
    refine ⟨i, j, rfl, ?_⟩
    rw [ltB_eq] at q
    by_cases h : j < i
    · rw [if_pos h]
      rw [decide_eq_true h] at q
      exact q.ok s (.int _)
    · rw [if_neg h]
      rw [decide_eq_false h] at q
      exact q.ok s (.int _)
  · exact q.elim
end
end Pd

/-! dict(list of pairs), d.update(list of pairs) -/
namespace Pd
open L2 PySem PySem.Spec PyProof.Rows

def mergeG (eq : Key → Key → Bool) : List (Key × D) → List (Key × D) → List (Key × D)
  | acc, [] => acc
  | acc, (k, d) :: r => mergeG eq (putG eq acc k d) r
def pairsD : List D → Option (List (Key × D))
  | [] => some []
  | .tup [k, v] :: r => (match keyOf k with
    | some key => (match pairsD r with
      | some kds => some ((key, v) :: kds)
      | none => none)
    | none => none)
  | _ => none
def gDictP : List D → Sto → Res D := fun ds S => match ds with
  | [d] => (match lstV S d with
    | some xs => (match pairsD xs with
      | some kds => .ok (.ref S.nx) (S.new (.dct (mergeG eqK [] kds)))
      | none => .bad)
    | none => .bad)
  | _ => .bad
section
variable {X : Cx} {C : Cfg} {W : XK} {M : Wd} {S : Sto} {H : Hp}
theorem mergeG_of : ∀ {kds : List (Key × D)} {kvs : List (Key × V)} {acc : List (Key × D)} {avs : List (Key × V)}, RepG C M acc avs → RepG C M kds kvs → RepG C M (mergeG eqK acc kds) (mergeK avs kvs)
  | [], _, acc, avs, ra, r => by
    rw [r.nil_inv]; exact ra
  | (k, d) :: kds, _, acc, avs, ra, r => by
    obtain ⟨v, rs, rfl, h1, h2⟩ := r.cons_inv
    show RepG C M (mergeG eqK (putG eqK acc k d) kds) (mergeK (putK avs k v) rs)
    exact mergeG_of (putG_of eqK_iff h1 k ra) h2
/-- a list of pairs, in the heap -/
theorem pairsD_of (s : Sim C M S H) : ∀ {ds : List D} {vs : List V} {kds : List (Key × D)}, RepL C M ds vs → pairsD ds = some kds → ∃ (ps : List Addr) (kvs : List (Key × V)), vs = ps.map V.ref ∧ Paired (fun p kv => SqT C.K H p [kV kv.1, kv.2]) ps kvs ∧ RepG C M kds kvs
  | [], vs, kds, r, h => by
    cases h
    exact ⟨[], [], r.nil_inv, .nil, .nil⟩
  | d :: ds, vs, kds, r, h => by
    unfold pairsD at h
    split at h
    · cases ‹_ :: _ = []›
    · rename_i k v rest e
      cases e
      split at h
      · rename_i key ek
        split at h
        · rename_i kds' e2
          cases h
          obtain ⟨x, us, rfl, h1, h2⟩ := r.cons_inv
          obtain ⟨a, ws, rfl, q1, q2⟩ := tup_of s h1 rfl
          obtain ⟨x1, ws1, rfl, p1, p2⟩ := q2.cons_inv
          obtain ⟨x2, ws2, rfl, p3, p4⟩ := p2.cons_inv
          cases p4.nil_inv
          obtain ⟨ps, kvs, e3, e4, e5⟩ := pairsD_of s h2 e2
          have := keyOf_of p1 ek
          subst this
          exact ⟨a :: ps, (key, x2) :: kvs, by rw [e3]; rfl, .cons q1 e4, .cons p3 e5⟩
        · cases h
      · cases h
    · cases h
theorem cDictP (hK : X.K = C.K) (hc : X.calm = true) : CaD X C W (.type "dict") gDictP := by
  refine ⟨_, call_dictP hc, fun M S H ds vs Q s r q => ?_⟩
  rw [hK]
  unfold gDictP at q
  split at q
  · rename_i d
    obtain ⟨v, rfl, rd⟩ := one_of r
    split at q
    · rename_i xs e1
      split at q
      · rename_i kds e2
        obtain ⟨a, us, rfl, h1, h2⟩ := lst_of s rd e1
        obtain ⟨ps, kvs, rfl, h3, h4⟩ := pairsD_of s h2 e2
        exact ⟨a, ps, kvs, rfl, h1, h3, fun p hp => newSto q s ⟨_, rfl, mergeG_of .nil h4⟩ hp⟩
      · exact q.elim
    · exact q.elim
  · exact q.elim
def rUpdP (K : PySem.W.Frag) : V → List V → Hp → VK → Prop := fun x vs H Q => ∃ (d a : Addr) (ps : List Addr) (acc kvs : List (Key × V)), x = .ref d ∧ vs = [.ref a] ∧ H d = some (.dK acc) ∧ SqL K H a (ps.map V.ref) ∧ Paired (fun p kv => SqT K H p [kV kv.1, kv.2]) ps kvs ∧
  acc.length + kvs.length ≤ sizeLine ∧ Q .non (upd H d (.dK (mergeK acc kvs)))
/-- the pairs of a list, as they lie -/
theorem pairs_lie {pins : List (Addr × Obj)} {σ : L2.St} {H : Hp} {s : Shared} (I : Inv X pins σ H s) : ∀ {ps : List Addr} {kvs : List (Key × V)}, Paired (fun p kv => SqT X.K H p [kV kv.1, kv.2]) ps kvs →
    ∃ qs : List (Value × Key × Value), KV kvs (qs.map fun q => (q.2.1, q.2.2)) ∧ qs.length = ps.length ∧ ∀ (j : Nat) (q : Value × Key × Value), qs[j]? = some q → ∃ b : Addr, ps[j]? = some b ∧ s.heap.IsTuple b #[q.1, q.2.2] ∧ keyIs q.2.1 q.1 = true
  | _, (_), .nil => ⟨[], .nil, rfl, fun j q e => by simp at e⟩
  | _, (_), .cons (a := p) (b := kv) h t => by
    obtain ⟨qs, r, hl, hp⟩ := pairs_lie I t
    obtain ⟨its, rv, ht, _⟩ := I.tuple h; obtain ⟨u, y, ei, ru, ry⟩ := vals2 rv
    subst ei
    refine ⟨(u, kv.1, y) :: qs, .cons ⟨rfl, ry⟩ r, by rw [List.length_cons, List.length_cons, hl], fun j q e => ?_⟩
    cases j with
    | zero =>
      cases Option.some.inj e
      exact ⟨p, rfl, ht, kV_is (P := X.prog) (w := X.w) ru⟩
    | succ j => exact hp j q e
theorem dict_ne_list : ¬ Value.type "dict" = Value.type "list" := fun h => by injection h with e; exact absurd e (by decide +kernel)
theorem dict_ne_tuple : ¬ Value.type "dict" = Value.type "tuple" := fun h => by injection h with e; exact absurd e (by decide +kernel)
theorem mt_updP (hc : X.calm = true) : MtR X "dict.update" (rUpdP X.K) := by
  intro pins s σ H x vs v us Q I rx rv h; obtain ⟨d, a, ps, acc, kvs, rfl, rfl, hd, hq, hp, hz, q⟩ := h
  cases rx
  obtain ⟨u, rfl, ru⟩ := rv.one
  cases ru
  obtain ⟨its, rvs, pl, hsz⟩ := I.list hq
  have ei := refs_at rvs
  subst ei
  obtain ⟨qs, rel, hl, hpr⟩ := pairs_lie I hp
  obtain ⟨z, hm, dvs, drel, dd⟩ := dk_of I.hok hd
  have hql : qs.length = kvs.length := by have e := rel.length; rw [List.length_map] at e; exact e.symm
  have PA := PairArg.list (prog := X.prog) (w := X.w) a (ps.map Value.ref).toArray (fun j => ps.getD j 0) (qs.map fun q => (q.1, q.2.2))
  have hps : ∀ j b, ps[j]? = some b → ps.getD j 0 = b := fun j b e => by rw [List.getD_eq_getElem?_getD, e]; rfl
  obtain ⟨od, edct, ep, hod, hex, _⟩ := id dd
  have dcls : od.cls = .type "dict" := hex.1
  obtain ⟨oa, na, hoa, hca, hda, hdat⟩ := pl
  have nea : d ≠ a := fun e => by
    subst e
    rw [hod] at hoa
    cases hoa
    exact dict_ne_list (dcls.symm.trans hca)
  refine call_update_pairs (knd := mixKind X.prog X.w) (acc := dvs) (kvs := qs.map fun q => (q.2.1, q.2.2)) PA (I.ok.hd hc) ⟨⟨oa, na, hoa, hca, hda, hdat⟩, by simp [hl], fun j k v hj => ?_⟩ ?_ ⟨by simp, fun i key v hr => ?_⟩ dd (by rw [List.length_map, hql, ← drel.length]; exact hz) fun h' tk hd' k => ?_
  · obtain ⟨q, hq1, hq2⟩ := Option.map_eq_some_iff.mp ((List.getElem?_map ..).symm.trans hj)
    cases hq2
    obtain ⟨b, e1, e2, e3⟩ := hpr j q hq1
    dsimp only
    rw [hps j b e1]
    exact ⟨by simp [e1], .inl e2⟩
  · intro hmem
    rcases List.mem_cons.mp hmem with e | hmem
    · exact nea e
    · obtain ⟨j, hj, e⟩ := List.mem_map.mp hmem
      have hj : j < qs.length := by have := List.mem_range.mp hj; rw [List.length_map] at this; exact this
      obtain ⟨b, e1, e2, _⟩ := hpr j _ (List.getElem?_eq_getElem hj)
      rw [hps j b e1] at e
      subst e
      obtain ⟨ob, hob, hcb, _⟩ := e2
      rw [hod] at hob
      cases hob
      exact dict_ne_tuple (dcls.symm.trans hcb)
  · obtain ⟨q, hq1, hq2⟩ := Option.map_eq_some_iff.mp ((List.getElem?_map ..).symm.trans hr)
    cases hq2
    obtain ⟨b, e1, e2, e3⟩ := hpr i q hq1
    exact ⟨q.2.1, by rw [List.getElem?_map, hq1]; rfl, e3⟩
  · have hz' : (mergeK acc kvs).length ≤ sizeLine := Nat.le_trans (length_mergeK kvs acc) hz
    have he : ∃ o, h'.get? d = some o := let ⟨o, _, _, h1, _⟩ := hd'; ⟨o, h1⟩
    exact ⟨.non, _, I.write (x := d) (e := d) (by rw [hd]; exact True.intro) (.inl rfl) (fun b o hb e => k b o hb (fun z => nomatch z) e) he (dk_new hz' hm (KV.merge rel drel) hd'), rfl, q⟩
/-- d.update(list of pairs), d a dict of the store -/
def gUpdP : D → List D → Sto → Res D := fun d ds S => match d with
  | .ref n => (match S.at n with
    | some (.dct acc) => (match ds with
      | [x] => (match lstV S x with
        | some xs => (match pairsD xs with
          | some kds => guard (lineOk (acc.length + kds.length)) (.ok .non (S.set n (.dct (mergeG eqK acc kds))))
          | none => .bad)
        | none => .bad)
      | _ => .bad)
    | _ => .bad)
  | _ => .bad
def isDs (S : Sto) (d : D) : Bool := match d with
  | .ref n => (match S.at n with
    | some (.dct _) => true
    | _ => false)
  | _ => false
theorem dsto_of {n : Nat} {acc : List (Key × D)} {x : V} (s : Sim C M S H) (r : Rep C M (.ref n) x) (h : S.at n = some (.dct acc)) : ∃ a avs, M.mu n = some a ∧ x = .ref a ∧ H a = some (.dK avs) ∧ RepG C M acc avs := by
  cases r
  rename_i a hm
  obtain ⟨b, o, h1, h2, _, h3⟩ := s.al n _ h
  rw [hm] at h1
  cases h1
  obtain ⟨avs, rfl, q⟩ := h3
  exact ⟨a, avs, hm, rfl, h2, q⟩
theorem ty_ds : TyD C "dict" isDs := fun M S H d x s r h => by
  unfold isDs at h
  split at h
  · rename_i n
    split at h
    · rename_i acc e
      obtain ⟨a, avs, _, rfl, h2, _⟩ := dsto_of s r e
      exact .inr (.inr (.inl ⟨rfl, .inl ⟨avs, h2⟩⟩))
    · cases h
  · cases h
theorem mUpdP (hK : X.K = C.K) (hc : X.calm = true) : MtD X C W "dict.update" gUpdP := by
  refine ⟨_, mt_updP hc, fun M S H d ds x vs Q s r rl q => ?_⟩
  rw [hK]
  unfold gUpdP at q
  split at q
  · rename_i n
    split at q
    · rename_i acc e
      obtain ⟨a, avs, hm, rfl, h2, ra⟩ := dsto_of s r e
      split at q
      · rename_i y
        obtain ⟨v, rfl, ry⟩ := one_of rl
        split at q
        · rename_i xs e1
          split at q
          · rename_i kds e2
            obtain ⟨g, q⟩ := guard_ok q
            obtain ⟨b, us, rfl, h3, h4⟩ := lst_of s ry e1
            obtain ⟨ps, kvs, rfl, h5, h6⟩ := pairsD_of s h4 e2
            refine ⟨a, b, ps, avs, kvs, rfl, rfl, h2, h3, h5, ?_, q.wrote s e hm ⟨_, rfl, mergeG_of ra h6⟩ .non⟩
            have l1 := ra.length
            have l2 := h6.length
            rw [← l1, ← l2]
            exact lineOk_ok g
          · exact q.elim
        · exact q.elim
      · exact q.elim
    · exact q.elim
  · exact q.elim
end
end Pd

/-! a, b, c = x, y, z -/
namespace Pd
open L2 PySem PySem.Spec PyProof.Rows
section
variable {X : Cx} {C : Cfg} {W : XK}
def sParB (fr : DA) (i j l : Nat) : DS := fun Γ S => (fr Γ S).then fun ds S1 => match ds with
  | [d, e, f] => .nx (((Γ.set i (some d)).set j (some e)).set l (some f)) S1
  | _ => .bad
theorem ypar3 {i j l : Nat} {x y z : Str} {a b c : Expr} {fr : DA} {px py pz pt pos : Pos} {kt k2 pt2} (hc : X.calm = true) (hN : X.N.Nodup) (hi : X.N[i]? = some x) (hj : X.N[j]? = some y) (hl : X.N[l]? = some z) (hij : i ≠ j) (hil : i ≠ l) (hjl : j ≠ l)
    (hx : X.env.scope.names.lookup x = some .local) (hy : X.env.scope.names.lookup y = some .local) (hz : X.env.scope.names.lookup z = some .local) (ha : PA X [a, b, c] (tA C W fr))
    (hw : swappedStores [.Tuple [.Name x px, .Name y py, .Name z pz] kt pt] (.Tuple [a, b, c] k2 pt2) X.env = pure (some [x, y, z])) (hs : swapsWithSole [.Tuple [.Name x px, .Name y py, .Name z pz] kt pt] (.Tuple [a, b, c] k2 pt2) pos.line X.env = pure false := by rfl) :
    PS X (.Assign [.Tuple [.Name x px, .Name y py, .Name z pz] kt pt] (.Tuple [a, b, c] k2 pt2) pos) (tS C W (sParB fr i j l)) :=
  (ps_par3 hc hN hi hj hl hij hil hjl hx hy hz ha hw hs).by fun D σ H ⟨M, Γ, S, g, s, h⟩ => runAS g s h fun M1 ds S1 xs H1 l1 s1 r1 h1 => by
    split at h1
    · rename_i d e f
      obtain ⟨v, us, rfl, q1, r2⟩ := r1.cons_inv
      obtain ⟨u, us', rfl, q2, r3⟩ := r2.cons_inv
      obtain ⟨t, us'', rfl, q3, r4⟩ := r3.cons_inv
      rw [r4.nil_inv]
      exact ⟨v, u, t, rfl, h1.nxt ((((g.mono l1).set q1 i).set q2 j).set q3 l) s1⟩
    · exact h1.elim
end
end Pd

/-! dict(d), sorted(d), del d[k], d.pop(k); own classes: isinstance, own __eq__, own __len__ -/
namespace Pd
open L2 PySem PySem.Spec PyProof.Rows

/-! ### dicts -/
def gDictC : List D → Sto → Res D := fun ds S => match ds with
  | [d] => (match dctV S d with
    | some kds => .ok (.ref S.nx) (S.new (.dct kds))
    | none => .bad)
  | _ => .bad
def intK : List (Key × D) → Option (List Int)
  | [] => some []
  | (.inl i, _) :: r => (match intK r with
    | some is => some (i :: is)
    | none => none)
  | (.inr _, _) :: _ => none
def gSortedD : List D → Sto → Res D := fun ds S => match ds with
  | [d] => (match dctV S d with
    | some kds => (match intK kds with
      | some ns => (match Nat.blt ns.length 64 with
        | true => .ok (.ref S.nx) (S.new (.lst (tupI (sortS ns))))
        | false => .bad)
      | none => .bad)
    | none => .bad)
  | _ => .bad
def dropG : List (Key × D) → Key → List (Key × D)
  | [], _ => []
  | (k0, d) :: r, k => (match eqK k0 k with
    | true => dropG r k
    | false => (k0, d) :: dropG r k)
def fDel (o i : D) (S : Sto) : Option Sto := match o with
  | .ref n => (match S.at n with
    | some (.dct kds) => (match keyOf i with
      | some k => (match lookK kds k with
        | some _ => some (S.set n (.dct (dropG kds k)))
        | none => none)
      | none => none)
    | _ => none)
  | _ => none
def sDel (fo fi : DE) : DS := fun Γ S => (fo Γ S).then fun o S1 => (fi Γ S1).then fun i S2 => match fDel o i S2 with
  | some S3 => .nx Γ S3
  | none => .bad
def isDct (S : Sto) (d : D) : Bool := match d with
  | .ref n => (match S.at n with
    | some (.dct _) => true
    | _ => false)
  | _ => false
def fDPop (o i : D) (S : Sto) : Res D := match o with
  | .ref n => (match S.at n with
    | some (.dct kds) => (match keyOf i with
      | some k => (match lookK kds k with
        | some d => .ok d (S.set n (.dct (dropG kds k)))
        | none => .bad)
      | none => .bad)
    | _ => .bad)
  | _ => .bad
def dDPop (fo fi : DE) : DE := fun Γ S => (fo Γ S).bind fun o S1 => guard (isDct S1 o) ((fi Γ S1).bind fun i S2 => fDPop o i S2)
section
variable {X : Cx} {C : Cfg} {W : XK}
theorem intK_of : ∀ {kds : List (Key × D)} {ns : List Int}, intK kds = some ns → kds.map (·.1) = ns.map Sum.inl
  | [], ns, h => by cases h; rfl
  | (.inl i, d) :: r, ns, h => by
    unfold intK at h
    split at h
    · rename_i is e
      cases h
      simp [intK_of e]
    · cases h
  | (.inr _, _) :: _, _, h => by cases h
theorem call_dictC : CallR X (.type "dict") (fun xs H Q => ∃ (a : Addr) (kvs : List (Key × V)), xs = [.ref a] ∧ Rd H a (.dK kvs) ∧ ∀ p, H p = none → Q (.ref p) (upd H p (.dK kvs))) := by
  intro pins s σ H xs us Q I r q; obtain ⟨a, kvs, ex, hd, q⟩ := q
  subst ex
  obtain ⟨u, eu, rx⟩ := vals1 r
  subst eu
  cases rx
  exact d_copyOf I hd fun p s' hp I' => ⟨.ref p, _, I', rfl, q p hp⟩
theorem cDictC (hK : X.K = C.K) : CaD X C W (.type "dict") gDictC := by
  refine ⟨_, call_dictC, fun M S H ds vs Q s r q => ?_⟩
  unfold gDictC at q
  split at q
  · rename_i d
    split at q
    · rename_i kds e1
      obtain ⟨v, rfl, rd⟩ := one_of r
      obtain ⟨a, us, rfl, ha, rl⟩ := dct_of s rd e1
      exact ⟨a, us, rfl, ha, fun p hp => newSto q s ⟨_, rfl, rl⟩ hp⟩
    · exact q.elim
  · exact q.elim
theorem cSortedD (hK : X.K = C.K) (hc : X.calm = true) : CaD X C W (.builtin "sorted") gSortedD := by
  refine ⟨_, call_sortedDI hc, fun M S H ds vs Q s r q => ?_⟩
  unfold gSortedD at q
  split at q
  · rename_i d
    split at q
    · rename_i xs e1
      split at q
      · rename_i ns e2
        split at q
        · rename_i e3
          obtain ⟨v, rfl, rd⟩ := one_of r
          obtain ⟨a, us, rfl, ha, rl⟩ := dct_of s rd e1
          refine ⟨a, us, ns, rfl, ha, rl.1.symm.trans (intK_of e2), Nat.le_of_ble_eq_true e3, fun ms p h1 h2 hp => ?_⟩
          have e4 : ms = sortS ns := (h1.trans (sortS_perm ns).symm).eq_of_pairwise (le := fun a b => a ≤ b) (fun a b _ _ h1 h2 => Int.le_antisymm h1 h2) h2 (sortS_asc ns)
          subst e4
          exact newSto q s ⟨_, rfl, tupI_of _⟩ hp
        · exact q.elim
      · exact q.elim
    · exact q.elim
  · exact q.elim
theorem dropG_of {M : Wd} (k : Key) : ∀ {kds : List (Key × D)} {kvs : List (Key × V)}, RepG C M kds kvs → RepG C M (dropG kds k) (dropK kvs k)
  | [], _, r => by rw [r.nil_inv]; exact .nil
  | (k0, d) :: rs, _, r => by
    obtain ⟨v, ps, rfl, h1, h2⟩ := r.cons_inv
    have ih := dropG_of k h2
    unfold dropG
    cases e : eqK k0 k with
    | true =>
      have e' : k0 = k := (eqK_iff k0 k).mp e
      subst e'
      have : dropK ((k0, v) :: ps) k0 = dropK ps k0 := by unfold dropK; rw [List.filter_cons_of_neg (by simp)]
      rw [this]; exact ih
    | false =>
      have e' : k0 ≠ k := fun z => by rw [(eqK_iff k0 k).mpr z] at e; cases e
      have : dropK ((k0, v) :: ps) k = (k0, v) :: dropK ps k := by unfold dropK; rw [List.filter_cons_of_pos (by simpa using e')]
      rw [this]; exact .cons h1 ih
theorem ydel {o i : Expr} {fo fi : DE} {pos tpos : Pos} (ho : PE X o (tE C W fo)) (hi : PE X i (tE C W fi)) : PS X (.Delete [.Subscript o i tpos] pos) (tS C W (sDel fo fi)) :=
  (ps_ddel ho hi).by fun D σ H ⟨M, Γ, S, g, s, h⟩ => run1S g s h fun M1 o S1 x H1 l1 s1 r1 h1 =>
    run1S (g.mono l1) s1 h1 fun M2 i S2 y H2 l2 s2 r2 h2 => by
      split at h2
      · rename_i S3 e3
        unfold fDel at e3
        split at e3
        · rename_i n
          split at e3
          · rename_i kds e4
            split at e3
            · rename_i k ek
              split at e3
              · rename_i d el
                cases e3
                obtain ⟨a, avs, hm, rfl, h3, ra⟩ := dsto_of s2 (r1.mono l2) e4
                have h5 := lookK_of k ra
                rw [el] at h5
                obtain ⟨v, hv, rv⟩ := h5
                exact ⟨a, avs, k, rfl, h3, keyOf_of r2 ek, by rw [hv]; rfl, h2.nxt (g.mono (l1.trans l2)) (s2.write e4 hm ⟨_, rfl, dropG_of k ra⟩)⟩
              · cases e3
            · cases e3
          · cases e3
        · cases e3
      · exact h2.elim
theorem xdpop {o e : Expr} {fo fi : DE} {apos cpos : Pos} (ho : PE X o (tE C W fo)) (hi : PE X e (tE C W fi)) (m : L2.M1 X o "pop" apos e cpos) : PE X (.Call (.Attribute o "pop" apos) [e] [] cpos) (tE C W (dDPop fo fi)) :=
  (pe_dpop1 ho hi m).by fun σ H Q ⟨M, Γ, S, g, s, h⟩ => run1 g s h fun M1 o S1 x H1 l1 s1 r1 h1 => by
    obtain ⟨gd, h1⟩ := guard_ok h1
    have hp : ∃ a, x = .ref a ∧ IsD H1 a := by
      unfold isDct at gd
      split at gd
      · rename_i n
        split at gd
        · rename_i kds e
          obtain ⟨a, avs, _, rfl, h2, _⟩ := dsto_of s1 r1 e
          exact ⟨a, rfl, .inl ⟨avs, .inl h2⟩⟩
        · cases gd
      · cases gd
    obtain ⟨a, rfl, ha⟩ := hp
    refine ⟨a, rfl, ha, run1 (g.mono l1) s1 h1 fun M2 b S2 y H2 l2 s2 r2 h2 => ?_⟩
    unfold fDPop at h2
    split at h2
    · rename_i n
      split at h2
      · rename_i kds e4
        split at h2
        · rename_i k ek
          split at h2
          · rename_i d el
            obtain ⟨a', avs, hm, e5, h3, ra⟩ := dsto_of s2 (r1.mono l2) e4
            cases e5
            have h5 := lookK_of k ra
            rw [el] at h5
            obtain ⟨v, hv, rv⟩ := h5
            exact ⟨avs, k, v, h3, keyOf_of r2 ek, hv, h2.wrote s2 e4 hm ⟨_, rfl, dropG_of k ra⟩ rv⟩
          · exact h2.elim
        · exact h2.elim
      · exact h2.elim
    · exact h2.elim
end

/-! ### l.pop(i) -/
def gPopAt : D → List D → Sto → Res D := fun d ds S => onL d S fun n xs => match ds with
  | [.int (.ofNat k)] => guard (Nat.blt k 1000000) (match nthD xs k with
      | some z => .ok z (S.set n (.lst (xs.eraseIdx k)))
      | none => .bad)
  | _ => .bad
section
variable {X : Cx} {C : Cfg} {W : XK}
theorem RepL.erase {M : Wd} {ds : List D} {vs : List V} (r : RepL C M ds vs) : ∀ k : Nat, RepL C M (ds.eraseIdx k) (vs.eraseIdx k) := by
  induction ds generalizing vs with
  | nil => intro k; rw [r.nil_inv]; exact .nil
  | cons d ds ih =>
    intro k
    obtain ⟨v, us, rfl, h1, h2⟩ := r.cons_inv
    cases k with
    | zero => exact h2
    | succ k => exact .cons h1 (ih h2 k)
theorem seqIx {k n : Nat} (h : k < n) : seqIndex? (Int.ofNat k) n = some k := by
  unfold seqIndex?
  have h0 : ¬ (Int.ofNat k < 0) := by show ¬ ((k : Nat) : Int) < 0; omega
  dsimp only
  rw [if_neg h0]
  have h1 : (0 : Int) ≤ Int.ofNat k := by show (0 : Int) ≤ ((k : Nat) : Int); omega
  have h2 : Int.ofNat k < (n : Int) := by show ((k : Nat) : Int) < n; omega
  simp [h]
theorem mPopAt : MtD X C W "list.pop" gPopAt := by
  refine ⟨_, mt_popAt, fun M S H d ds x vs Q s r rl q => ?_⟩
  obtain ⟨n, xs, a, us, e, hm, rfl, h2, rx, q⟩ := onL_of s r q
  split at q
  · rename_i k q0
    obtain ⟨g, q⟩ := guard_ok q
    split at q
    · rename_i z ez
      obtain ⟨v, rfl, rv⟩ := one_of rl
      cases rv
      have hz : xs[k]? = some z := (nthD_eq xs k).symm.trans ez
      obtain ⟨y, hy, ry⟩ := rx.get hz
      have hb : k < 1000000 := Nat.le_of_ble_eq_true g
      have hk : k < us.length := by
        rcases Nat.lt_or_ge k us.length with h | h
        · exact h
        · rw [List.getElem?_eq_none h] at hy; cases hy
      refine ⟨a, us, Int.ofNat k, k, y, rfl, rfl, h2, ?_, ?_, seqIx hk, hy, q.wrote s e hm ⟨_, rfl, rx.erase k⟩ ry⟩
      · show -(2 ^ 63) ≤ ((k : Nat) : Int); omega
      · show ((k : Nat) : Int) < 2 ^ 63; omega
    · exact q.elim
  · exact q.elim
end

/-! ### list(text) -/
def gListT : List D → Sto → Res D := fun ds S => match ds with
  | [.str x] => guard (lineOk x.cps.size) (.ok (.ref S.nx) (S.new (.lst (signs x.cps.toList))))
  | _ => .bad
section
variable {X : Cx} {C : Cfg} {W : XK}
def sgV (x : Str) : List V := x.cps.toList.map fun c => V.str ⟨#[c]⟩
theorem call_listTx (hc : X.calm = true) : CallR X (.type "list") (fun xs H Q => ∃ x : Str, xs = [.str x] ∧ x.cps.size ≤ sizeLine ∧ ∀ q, H q = none → Q (.ref q) (upd H q (.lst (sgV x)))) := by
  intro pins s σ H xs us Q I r q; obtain ⟨x, rfl, hz, q⟩ := q
  obtain ⟨u, eu, rx⟩ := vals1 r
  subst eu
  obtain ⟨t, rfl⟩ := (show ∃ t, u = Value.str x t from rx)
  have hl : (sgV x).length = x.cps.size := by unfold sgV; simp
  refine call_list_str (I.ok.hd hc) x t (hn := hz) fun h' tk acc c' hk e hi => ?_
  refine ⟨.ref s.heap.objs.size, upd H s.heap.objs.size (.lst (sgV x)), I.laid hk (Nat.le_refl _) ⟨by rw [hl]; exact hz, acc.toList, c', ?_, by rw [Array.toArray_toList]; exact e⟩, rfl, q _ (I.hok.fresh (Nat.le_refl _))⟩
  refine vals_of_idx _ _ (by rw [hl, Array.length_toList]; exact hi.1) fun j u hj => ?_
  obtain ⟨c, t', hc, rfl⟩ := hi.2 j u (by rw [← Array.getElem?_toList]; exact hj); exact ⟨.str ⟨#[c]⟩, by unfold sgV; simp [hc], ⟨_, rfl⟩⟩
theorem signs_rep {M : Wd} : ∀ l : List Nat, RepL C M (signs l) (l.map fun c => V.str ⟨#[c]⟩)
  | [] => .nil
  | c :: r => .cons (.str _) (signs_rep r)
theorem cListT (hc : X.calm = true) : CaD X C W (.type "list") gListT := by
  refine ⟨_, call_listTx hc, fun M S H ds vs Q s r q => ?_⟩
  unfold gListT at q
  split at q
  · rename_i x
    obtain ⟨g, q⟩ := guard_ok q
    obtain ⟨v, rfl, rd⟩ := one_of r
    cases rd
    exact ⟨x, rfl, lineOk_ok g, fun p hp => newSto q s ⟨_, rfl, signs_rep _⟩ hp⟩
  · exact q.elim
end

/-! ### own classes -/
abbrev bCls : Value := .builtin "object.__class__"
def obt (a : Option Bool) (b : Bool) : Bool := match a with
  | some c => eqBl c b
  | none => false
theorem obt_ok {a : Option Bool} {b : Bool} (h : obt a b = true) : a = some b := by
  unfold obt at h
  split at h
  · rename_i c
    cases c <;> cases b <;> first | rfl | cases h
  · cases h
def TK.all : List TK := [.non, .bl, .int, .str, .tup, .lst, .dct]
theorem TK.mem (k : TK) : k ∈ TK.all := by cases k <;> simp [TK.all]
structure OwnC (K : PySem.W.Frag) (c : Addr) : Prop where
  cl : Cls K c
  ha : PySem.W.findIn K (.ref c) "__class__" = some (some bCls)
  hn : PySem.W.specialIn K bCls "__get__" = some (some (.builtin "getset_descriptor.__get__"))
  htk : PySem.W.takesIn K bCls = some true
  hm : PySem.W.mroIn K c (.type "object") = some true
  ot : ∀ k : TK, PySem.W.kitCls K (.type k.nm) (.ref c) = some false
def ownB (K : PySem.W.Frag) (c : Addr) : Bool := PySem.W.plainGet K c Str.empty && (PySem.W.hasDictIn K c && (PySem.W.plainOver K c && (He.eqO (PySem.W.findIn K (.ref c) "__setattr__") (some (some (.builtin "object.__setattr__"))) &&
  (He.eqO (PySem.W.findIn K (.ref c) "__class__") (some (some bCls)) && (He.eqO (PySem.W.specialIn K bCls "__get__") (some (some (.builtin "getset_descriptor.__get__"))) && (obt (PySem.W.takesIn K bCls) true && (obt (PySem.W.mroIn K c (.type "object")) true &&
  TK.all.all fun k => obt (PySem.W.kitCls K (.type k.nm) (.ref c)) false)))))))
theorem ownB_ok {K : PySem.W.Frag} {c : Addr} (h : ownB K c = true) : OwnC K c := by
  obtain ⟨h1, h⟩ := Bool.and_eq_true_iff.mp h; obtain ⟨h2, h⟩ := Bool.and_eq_true_iff.mp h
  obtain ⟨h3, h⟩ := Bool.and_eq_true_iff.mp h
  obtain ⟨h4, h⟩ := Bool.and_eq_true_iff.mp h
  obtain ⟨h5, h⟩ := Bool.and_eq_true_iff.mp h
  obtain ⟨h6, h⟩ := Bool.and_eq_true_iff.mp h
  obtain ⟨h7, h⟩ := Bool.and_eq_true_iff.mp h
  obtain ⟨h8, h⟩ := Bool.and_eq_true_iff.mp h
  exact ⟨⟨h1, h2, h3, He.eqO_ok h4⟩, He.eqO_ok h5, He.eqO_ok h6, obt_ok h7, obt_ok h8, fun k => obt_ok (List.all_eq_true.mp h k k.mem)⟩
/-- whether it is an instance of the class c -/
def ownIs (c : Nat) (S : Sto) (d : D) : Option Bool := match insV S d with
  | some (c', _) => (match Nat.beq c' c with
    | true => some true
    | false => none)
  | none => (match tkOf S d with
    | some _ => some false
    | none => none)
section
variable {X : Cx} {C : Cfg} {W : XK} {M : Wd} {S : Sto} {H : Hp}
theorem kit_self {K : PySem.W.Frag} {c : Addr} : PySem.W.kitOne K (.ref c) (.ref c) = some true := by
  unfold PySem.W.kitOne
  rw [if_pos (by simp)]
theorem kit_other {K : PySem.W.Frag} {c : Addr} (o : OwnC K c) (k : TK) : PySem.W.kitOne K (.type k.nm) (.ref c) = some false := by
  unfold PySem.W.kitOne
  rw [if_neg (by simp), o.ot k]
theorem sub_other {K : PySem.W.Frag} {c : Addr} (o : OwnC K c) (k : TK) : PySem.W.subIn K (.type k.nm) (.ref c) = some false := by
  have h := o.ot k
  unfold PySem.W.kitCls at h
  dsimp only at h
  split at h
  · exact h
  · cases h
theorem ownIs_of {c : Nat} {d : D} {x : V} {b : Bool} (o : OwnC C.K (C.ga c)) (s : Sim C M S H) (r : Rep C M d x) (h : ownIs c S d = some b) :
    ∃ t, TyZ C.K H x t ∧ PySem.W.kitOne C.K t (.ref (C.ga c)) = some b ∧ PySem.W.notFirst C.K (C.ga c) t = true := by
  unfold ownIs at h
  split at h
  · rename_i c' fs e
    split at h
    · rename_i e2
      cases h
      have := Nat.eq_of_beq_eq_true e2
      subst this
      obtain ⟨a, dx, fv, rfl, ha, rf⟩ := ins_of s r e
      exact ⟨_, .x (.base (.ins ha o.cl o.ha o.hn o.htk o.hm)), kit_self, by unfold PySem.W.notFirst; simp⟩
    · cases h
  · split at h
    · rename_i k e
      cases h
      refine ⟨_, tkOf_of s r e, kit_other o k, ?_⟩
      unfold PySem.W.notFirst
      rw [sub_other o k]
      simp
    · cases h
def dIsO (c : Nat) (fa : DE) : DE := fun Γ S => (fa Γ S).bind fun d S1 => match ownIs c S1 d with
  | some b => .ok (.bl b) S1
  | none => .bad
theorem xisO {e ce : Expr} {fa : DE} {p pos : Pos} {c : Nat} (hK : X.K = C.K) (o : OwnC C.K (C.ga c)) (hg : Gl X "isinstance") (hm : X.mg "isinstance" = none) (ha : PE X e (tE C W fa)) (hc : PE X ce (tC (.ref (C.ga c))))
    (he : starEach [e, ce] X.env = (false, eval e X.env) :: starEach [ce] X.env := by rfl) (he2 : starEach [ce] X.env = (false, eval ce X.env) :: starEach [] X.env := by rfl) (hpl : (backTo pos (starEach [ce] X.env)).any (·.1) = false := by rfl) :
    PE X (.Call (.Name "isinstance" p) [e, ce] [] pos) (tE C W (dIsO c fa)) :=
  (pe_callB call_isZ hg hm (by rfl) (pa_cons ha (pa_cons hc pa_nil he2) he) (by decide) (by decide) he hpl).by fun σ H Q ⟨M, Γ, S, g, s, h⟩ => run1 g s h fun M1 d S1 x H1 l1 s1 r1 h1 => by
    split at h1
    · rename_i b e
      obtain ⟨t, h2, h3, _⟩ := ownIs_of o s1 r1 e
      exact ⟨x, _, t, _, b, rfl, .own _, hK ▸ h2, hK ▸ h3, h1.ok s1 (.bl _)⟩
    · exact h1.elim
/-- a class of the module as a value -/
theorem xclsv {x : Str} {a : Addr} {pos : Pos} (hg : Gl X x) (hm : X.mg x = some (.ref a)) (hd : (x == ("__debug__" : Str)) = false := by decide) : PE X (.Name x pos) (tC (.ref a)) := pe_glob (v := .ref a) hg hm rfl hd
theorem looks_ty {pins : List (Addr × Obj)} {s : Shared} {σ : L2.St} {H : Hp} {y : V} {u t : Value} (I : Inv X pins σ H s) (r : RelV y u) (ty : TyZ X.K H y t) : PySem.W.Looks (model X.prog X.w) s.heap (typeOf u) t := by
  cases ty with
  | x ty =>
    obtain ⟨P, Z, p, _⟩ := kit_of I r ty
    exact Z.ty _ _ I.kIn p
  | @f a ob kvs ha =>
    cases (show u = Value.ref a from r)
    obtain ⟨_, _, _, xs, _, o, es, ep, g1, g2, _⟩ := (show ObjOk X.prog X.w H s.heap a (.frz ob (.dT kvs)) from I.hok a _ ha)
    exact PySem.W.kitx_dict.ty _ _ I.kIn ⟨o, g1, g2.1⟩
/-- x == y by the own __eq__ of x's class -/
def rOEq (C : Cfg) (c : Nat) (sp : Sp) (W : XK) : R2 := fun x y H Q => ∃ a dx fs t, x = .ref a ∧ H a = some (.ins (C.ga c) dx fs) ∧ TyZ C.K H y t ∧ PySem.W.notFirst C.K (C.ga c) t = true ∧ sp [x, y] H (fun v H' => (∃ b, v = .bl b) ∧ Q v H') W
def blOnly (r : Res D) : Res D := r.bind fun d S => match d with
  | .bl b => .ok (.bl b) S
  | _ => .bad
def fOEq (c : Nat) (fe : List D → Sto → Res D) : D → D → Sto → Res D := fun a b S => match insV S a with
  | some (c', _) => guard (Nat.beq c' c) (match ownIs c S b with
    | some _ => blOnly (fe [a, b] S)
    | none => .bad)
  | none => .bad
theorem GoodE.blOnly {r : Res D} {Q : VK} (h : GoodE C M (blOnly r) Q W) : GoodE C M r (fun v H => (∃ b, v = .bl b) ∧ Q v H) W := by
  unfold Pd.blOnly at h
  cases r with
  | bad => exact h
  | exc c fs S => exact h
  | ok d S =>
    cases d with
    | bl b =>
      intro M' v H' l s r
      cases r
      exact ⟨⟨b, rfl⟩, h M' _ H' l s (.bl b)⟩
    | _ => exact False.elim h
theorem op_oeq {k : Nat} {f : Addr} {c : Nat} {fe : List D → Sto → Res D} (hK : X.K = C.K) (F : OkF X.prog X.w X.K X.mg X.base C k f 2 fe) (hr : Room k X.A) (hm : Meth X.K (C.ga c) "__eq__" f) : OpR X (compareOp .Eq) (rOEq C c (spD C 2 fe) W) := by
  intro pins s σ H x y v u Q I rx ry h; obtain ⟨a, dx, fs, t, rfl, ha, ty, hn, sp⟩ := h
  cases rx
  obtain ⟨fd, ps, F, hk, hb⟩ := F
  obtain ⟨mA, J, _⟩ := ins_get I.hok ha; obtain ⟨od, J, _⟩ := J.look
  obtain ⟨m, hF⟩ := I.fr
  show wpAny (model X.prog X.w) X.A (richCompare .Eq (.ref a) u) (EP X pins σ Q) X.xe s
  refine PySem.W.cmp_K (op := .Eq) (tb := t) hr.units0 hF I.ok.mod.kin J (looks_ty I ry (hK ▸ ty)) (hK ▸ hn) hm.at_ hm.fn ?_
  have hl := F.len _ _ _ _ sp
  have r2 : Vals [V.ref a, y] [Value.ref a, u] := .cons rfl (.cons ry .nil)
  refine wpAny_call (codeAny_mono (F.run X.A X.stack s H ⟨[.ref a, u], []⟩ [.ref a, u] [.ref a, y] _ W hr I.env0 (by
    have := hb s [.ref a, u] I.kIn (by simpa using hl)
    simpa using this) r2 sp) fun r s' hq => ?_)
  cases r with
  | error e => exact pass0 pins σ H s e s' I hq
  | ok fl =>
    cases fl with
    | ret w =>
      obtain ⟨z, H', I', rz, ⟨b, ez⟩, q⟩ := I.after hq
      subst ez
      cases rz
      exact ⟨.bl b, H', I', rfl, q⟩
    | next => exact False.elim hq
    | brk => exact False.elim hq
    | cont => exact False.elim hq
theorem oOEq {k : Nat} {f : Addr} {c : Nat} {fe : List D → Sto → Res D} (hK : X.K = C.K) (o : OwnC C.K (C.ga c)) (F : OkF X.prog X.w X.K X.mg X.base C k f 2 fe) (hr : Room k X.A) (hm : Meth X.K (C.ga c) "__eq__" f) : OpD X C W (compareOp .Eq) (fOEq c fe) := by
  refine ⟨_, op_oeq (W := W) hK F hr hm, fun M S H a b x y Q s ra rb q => ?_⟩
  unfold fOEq at q
  split at q
  · rename_i c' fs e
    obtain ⟨g1, q⟩ := guard_ok q
    have := Nat.eq_of_beq_eq_true g1
    subst this
    obtain ⟨p, dx, fv, rfl, ha, rf⟩ := ins_of s ra e
    split at q
    · rename_i bb e2
      obtain ⟨t, h2, _, h3⟩ := ownIs_of o s rb e2
      exact ⟨p, dx, fv, t, rfl, ha, h2, h3, M, S, [a, b], rfl, s, .cons ra (.cons rb .nil), q.blOnly⟩
    · exact q.elim
  · exact q.elim
/-- len(x) by the own __len__ -/
def smallN (r : Res D) : Res D := r.bind fun d S => match d with
  | .int (.ofNat n) => guard (lineOk n) (.ok (.int n) S)
  | _ => .bad
def gOLen (c : Nat) (fe : List D → Sto → Res D) : List D → Sto → Res D := fun ds S => match ds with
  | [d] => (match insV S d with
    | some (c', _) => guard (Nat.beq c' c) (smallN (fe [d] S))
    | none => .bad)
  | _ => .bad
theorem GoodE.smallN {r : Res D} {Q : VK} (h : GoodE C M (smallN r) Q W) : GoodE C M r (fun v H => (∃ n : Nat, v = .int n ∧ n ≤ 1000000) ∧ Q v H) W := by
  unfold Pd.smallN at h
  cases r with
  | bad => exact h
  | exc c fs S => exact h
  | ok d S =>
    cases d with
    | int i => cases i with
      | ofNat n =>
        obtain ⟨g1, h⟩ := guard_ok (show GoodE C M (guard (lineOk n) (.ok (.int n) S)) Q W from h)
        intro M' v H' l s r
        cases r
        exact ⟨⟨n, rfl, Nat.le_of_ble_eq_true g1⟩, h M' _ H' l s (.int _)⟩
      | negSucc n => exact False.elim h
    | _ => exact False.elim h
theorem call_olen {k : Nat} {f : Addr} {c : Nat} {fe : List D → Sto → Res D} (hK : X.K = C.K) (F : OkF X.prog X.w X.K X.mg X.base C k f 1 fe) (hr : Room (k + 1) X.A) (hm : Meth X.K (C.ga c) "__len__" f) :
    CallR X (.builtin "len") (fun xs H Q => ∃ a dx fs, xs = [.ref a] ∧ H a = some (.ins (C.ga c) dx fs) ∧ spD C 1 fe xs H (fun v H' => (∃ n : Nat, v = .int n ∧ n ≤ 1000000) ∧ Q v H') W) := by
  intro pins s σ H xs us Q I r q; obtain ⟨a, dx, fs, rfl, ha, sp⟩ := q
  obtain ⟨u, eu, rx⟩ := vals1 r
  subst eu
  cases rx
  obtain ⟨fd, ps, F, hk, hb⟩ := F
  obtain ⟨mA, J, _⟩ := ins_get I.hok ha; obtain ⟨od, J, _⟩ := J.look
  obtain ⟨m, hF⟩ := I.fr
  refine PySem.W.len_K hF I.ok.mod.kin J hm.at_ hm.fn ?_
  have e0 : Env0 X.prog X.w X.K X.mg X.base X.A.in1 X.stack s H := by
    have e := I.env0
    exact ⟨e.frames, e.mod, e.bs, e.bsz, e.funs, e.frf, e.hok, e.bare⟩
  have hl := F.len _ _ _ _ sp
  have r2 : Vals [V.ref a] [Value.ref a] := .cons rfl .nil; refine wpAny_call (codeAny_mono (F.run X.A.in1 X.stack s H ⟨[.ref a], []⟩ [.ref a] [.ref a] _ W hr.in1 e0 (by
    have := hb s [.ref a] I.kIn (by simpa using hl)
    simpa using this) r2 sp) fun r s' hq => ?_)
  cases r with
  | error e => exact pass0 pins σ H s e s' I hq
  | ok fl =>
    cases fl with
    | ret w =>
      obtain ⟨z, H', I', rz, ⟨n, ez, hn⟩, q⟩ := I.after hq
      subst ez
      obtain ⟨tk, rfl⟩ := (show ∃ t, w = Value.int n t from rz)
      exact ⟨⟨by omega, by omega⟩, .int n, H', I'.tok _, ⟨_, rfl⟩, q⟩
    | next => exact False.elim hq
    | brk => exact False.elim hq
    | cont => exact False.elim hq
theorem cOLen {k : Nat} {f : Addr} {c : Nat} {fe : List D → Sto → Res D} (hK : X.K = C.K) (F : OkF X.prog X.w X.K X.mg X.base C k f 1 fe) (hr : Room (k + 1) X.A) (hm : Meth X.K (C.ga c) "__len__" f) : CaD X C W (.builtin "len") (gOLen c fe) := by
  refine ⟨_, call_olen (W := W) hK F hr hm, fun M S H ds vs Q s r q => ?_⟩
  unfold gOLen at q
  split at q
  · rename_i d
    split at q
    · rename_i c' fs e
      obtain ⟨g1, q3⟩ := guard_ok q
      have := Nat.eq_of_beq_eq_true g1
      subst this
      obtain ⟨v, rfl, rd⟩ := one_of r
      obtain ⟨p, dx, fv, rfl, ha, rf⟩ := ins_of s rd e
      exact ⟨p, dx, fv, rfl, ha, M, S, [d], rfl, s, .cons rd .nil, q3.smallN⟩
    · exact q.elim
  · exact q.elim
end
end Pd

/-! list(range(n)) -/
namespace Pd
open L2 PySem PySem.Spec PyProof.Rows
def rngL : D → Sto → Res D := fun d S => match d with
  | .int i => (match Nat.blt i.natAbs 1000000 with
    | true => .ok (.ref S.nx) (S.new (.lst (upto 0 i.toNat)))
    | false => .bad)
  | _ => .bad
def dLstRng (fa : DE) : DE := fun Γ S => (fa Γ S).bind rngL
section
variable {X : Cx} {C : Cfg} {W : XK}
theorem upto_rep {M : Wd} : ∀ (n : Nat) (lo : Int), RepL C M (upto lo n) ((List.range n).map fun i => V.int (lo + (i : Nat)))
  | 0, _ => .nil
  | n + 1, lo => by
    have ih := upto_rep (M := M) n (lo + 1)
    have e : ((List.range (n + 1)).map fun i => V.int (lo + (i : Nat))) = V.int lo :: (List.range n).map fun i => V.int (lo + 1 + (i : Nat)) := by
      (rw [List.range_succ_eq_map, List.map_cons, List.map_map])
      congr 1
      · simp
      · refine List.map_congr_left fun i _ => ?_
        show V.int (lo + ((i + 1 : Nat) : Int)) = _
        congr 1
        omega
    rw [e]
    exact .cons (.int lo) ih
theorem xlstRng {e : Expr} {fa : DE} {p pos p2 pos2 : Pos} (hc : X.calm = true) (hg : Gl X "list") (hm : X.mg "list" = none) (hg2 : Gl X "range") (hm2 : X.mg "range" = none) (ha : PE X e (tE C W fa))
    (na : starEach [e] X.env = (false, eval e X.env) :: starEach [] X.env := by rfl) (nb : starEach [.Call (.Name "range" p2) [e] [] pos2] X.env = (false, eval (.Call (.Name "range" p2) [e] [] pos2) X.env) :: starEach [] X.env := by rfl) :
    PE X (.Call (.Name "list" p) [.Call (.Name "range" p2) [e] [] pos2] [] pos) (tE C W (dLstRng fa)) :=
  (pe_listRg hc hg hm (prg_1 hg2 hm2 ha na) nb).by fun σ H Q ⟨M, Γ, S, g, s, h⟩ => run1 g s h fun M1 d S1 x H1 l1 s1 r1 h1 => by
    unfold rngL at h1
    split at h1
    · rename_i i
      split at h1
      · rename_i e1
        cases r1
        have hb : i.natAbs < 1000000 := Nat.le_of_ble_eq_true e1
        refine ⟨i, rfl, ⟨by omega, by omega, by omega, by omega, by omega⟩, fun q hq => ?_⟩
        have := upto_rep (C := C) (M := M1) i.toNat 0
        unfold rgV
        rw [Int.sub_zero]
        exact newSto h1 s1 ⟨_, rfl, this⟩ hq
      · exact h1.elim
    · exact h1.elim
end
end Pd

namespace Pd
open L2 PySem PySem.Spec PyProof.Rows

/-! ### list(d.values()) -/
def rValsL (x : V) (H : Hp) (Q : VK) : Prop := ∃ (d : Addr) (kvs : List (Key × V)), x = .ref d ∧ H d = some (.dK kvs) ∧ ∀ q, H q = none → Q (.ref q) (upd H q (.lst (kvs.map (·.2))))
section
variable {X : Cx} {C : Cfg} {W : XK}
theorem kv_get : ∀ {kvs : List (Key × V)} {vs : List (Key × Value)}, KV kvs vs → ∀ j, j < kvs.length → ∃ p q, kvs[j]? = some p ∧ vs[j]? = some q ∧ RelV p.2 q.2
  | _, _, .nil, j, h => absurd h (Nat.not_lt_zero _)
  | _, _, .cons (a := p) (b := q) h t, 0, _ => ⟨p, q, rfl, rfl, h.2⟩
  | _, _, .cons h t, j + 1, hj => kv_get t j (Nat.lt_of_succ_lt_succ hj)
theorem pe_listVals {e : Expr} {te : TE} {p apos cpos pos : Pos} (hc : X.calm = true) (he : PE X e te) (hg : Gl X "list") (hm : X.mg "list" = none)
    (hbase : attributeBase e "values" X.env (eval e X.env) = eval e X.env := by rfl) (hline : (apos.endLine == cpos.line) = true := by rfl)
    (hs : starEach [.Call (.Attribute e "values" apos) [] [] cpos] X.env = (false, eval (.Call (.Attribute e "values" apos) [] [] cpos) X.env) :: starEach [] X.env := by rfl) :
    PE X (.Call (.Name "list" p) [.Call (.Attribute e "values" apos) [] [] cpos] [] pos) (fun σ H Q => te σ H fun x H1 => rValsL x H1 Q) := ⟨fun pins s σ H Q I hq => by
  refine wpAny_Call_Name_kw (ld_blt I hg hm boot_list (PyProof.Rows.callWith_type1 ?_ hs rfl) (by decide) (by decide))
  rw [hs]
  refine Calls.spliced_cons (wpAny_Call_method hbase rfl hline F.plainAttrs_dict F.slot_dict_values F.type_dict_values (thn (he.run pins s σ H _ I hq) fun u s1 r => ?_))
  obtain ⟨x, H1, I1, rx, d, kvs, ex, hd, q⟩ := r
  subst ex
  cases rx
  obtain ⟨hz, hs0, vs, kv, hdo⟩ := dk_of I1.hok hd
  obtain ⟨es, ep, raw, hsz, hent⟩ := hdo.raw
  have I2 := Inv.kept (t' := s1.toks) I1 fun b ob q => Heap.get?_push_of_some { cls := Value.type "dict_values", data := Data.fields #[Value.ref d] } q
  refine ⟨hdo.typeIs, hdo.mapOf.noDict, ?_⟩; refine method_meetsIn F.slot_dict_values F.entry_dict_values rfl (PySem.evalArgs_none ⟨rfl, hdo.typeIs, F.args_dict_values_1 (Value.ref d), _, meets_dict_values_raw d hs0, ⟨es, ep, raw⟩, Calls.spliced_nil ?_⟩)
  have raw2 : (s1.heap.push { cls := Value.type "dict_values", data := Data.fields #[Value.ref d] }).DictRaw d es ep := by
    obtain ⟨o, ho, h1, h2⟩ := raw
    exact ⟨o, Heap.get?_push_of_some _ ho, h1, h2⟩
  refine PySem.W.kdl_call (KdlSrc.rawValues (es := es) (ep := ep) (d := d)) (I1.ok.hd hc) ⟨⟨_, Heap.get?_push_size s1.1 rfl, rfl, rfl⟩, raw2⟩ (by rw [hsz, ← kv.length]; exact hz) fun h' tk acc' c' hk hS hi => ?_
  have hlen : acc'.size = kvs.length := by rw [hi.1, hsz, kv.length]
  refine ⟨.ref _, upd H1 _ (.lst (kvs.map (·.2))), I2.laid hk (Nat.le_refl _) ⟨by rw [List.length_map]; exact hz, acc'.toList, c', ?_, by rw [Array.toArray_toList]; exact hS⟩, rfl, q _ (I2.hok.fresh (Nat.le_refl _))⟩
  refine vals_of_idx _ _ (by rw [List.length_map, Array.length_toList]; exact hlen) fun j u hj => ?_
  obtain ⟨hjn, hju⟩ := hi.2 j u (by rw [← Array.getElem?_toList]; exact hj)
  have hjl : j < kvs.length := by rw [kv.length, ← hsz]; exact hjn
  obtain ⟨p1, q1, e1, e2, r1⟩ := kv_get kv j hjl
  obtain ⟨_, e3⟩ := hent j hjn q1.1 q1.2 e2
  refine ⟨p1.2, by rw [List.getElem?_map, e1]; rfl, ?_⟩
  rw [hju, e3]
  exact r1⟩
def valsL (kds : List (Key × D)) : List D := kds.map (·.2)
def gValsL : D → Sto → Res D := fun d S => match d with
  | .ref n => (match S.at n with
    | some (.dct kds) => .ok (.ref S.nx) (S.new (.lst (valsL kds)))
    | _ => .bad)
  | _ => .bad
theorem vals_rep {M : Wd} : ∀ {kds : List (Key × D)} {kvs : List (Key × V)}, RepG C M kds kvs → RepL C M (valsL kds) (kvs.map (·.2))
  | [], _, r => by
    rw [r.nil_inv]; exact .nil
  | (k, d) :: kds, _, r => by
    obtain ⟨v, rs, rfl, h1, h2⟩ := r.cons_inv
    exact .cons h1 (vals_rep h2)
def dLstVals (fa : DE) : DE := fun Γ S => (fa Γ S).bind gValsL
theorem xlstVals {e : Expr} {fa : DE} {p apos cpos pos : Pos} (hc : X.calm = true) (hg : Gl X "list") (hm : X.mg "list" = none) (ha : PE X e (tE C W fa))
    (hbase : attributeBase e "values" X.env (eval e X.env) = eval e X.env := by rfl) (hline : (apos.endLine == cpos.line) = true := by rfl)
    (hs : starEach [.Call (.Attribute e "values" apos) [] [] cpos] X.env = (false, eval (.Call (.Attribute e "values" apos) [] [] cpos) X.env) :: starEach [] X.env := by rfl) :
    PE X (.Call (.Name "list" p) [.Call (.Attribute e "values" apos) [] [] cpos] [] pos) (tE C W (dLstVals fa)) :=
  (pe_listVals hc ha hg hm hbase hline hs).by fun σ H Q ⟨M, Γ, S, g, s, h⟩ => run1 g s h fun M1 d S1 x H1 l1 s1 r1 h1 => by
    unfold gValsL at h1
    split at h1
    · rename_i n
      split at h1
      · rename_i kds e
        obtain ⟨a, avs, _, rfl, h2, ra⟩ := dsto_of s1 r1 e
        exact ⟨a, avs, rfl, h2, fun q hq => newSto h1 s1 ⟨_, rfl, vals_rep ra⟩ hq⟩
      · exact h1.elim
    · exact h1.elim
/-! ### d.pop(k, z) -/
def fDPop2 (o i z : D) (S : Sto) : Res D := match o with
  | .ref n => (match S.at n with
    | some (.dct kds) => (match keyOf i with
      | some k => (match lookK kds k with
        | some d => .ok d (S.set n (.dct (dropG kds k)))
        | none => .ok z S)
      | none => .bad)
    | _ => .bad)
  | _ => .bad
def dDPop2 (fo fi ff : DE) : DE := fun Γ S => (fo Γ S).bind fun o S1 => guard (isDct S1 o) ((fi Γ S1).bind fun i S2 => (ff Γ S2).bind fun z S3 => fDPop2 o i z S3)
theorem xdpop2 {o e f : Expr} {fo fi ff : DE} {apos cpos : Pos} (ho : PE X o (tE C W fo)) (hi : PE X e (tE C W fi)) (hf : PE X f (tE C W ff)) (m : L2.M2 X o "pop" apos e f cpos) : PE X (.Call (.Attribute o "pop" apos) [e, f] [] cpos) (tE C W (dDPop2 fo fi ff)) :=
  (pe_dpop2 ho hi hf m).by fun σ H Q ⟨M, Γ, S, g, s, h⟩ => run1 g s h fun M1 o S1 x H1 l1 s1 r1 h1 => by
    obtain ⟨gd, h1⟩ := guard_ok h1
    have hp : ∃ a, x = .ref a ∧ IsD H1 a := by
      unfold isDct at gd
      split at gd
      · rename_i n
        split at gd
        · rename_i kds e
          obtain ⟨a, avs, _, rfl, h2, _⟩ := dsto_of s1 r1 e
          exact ⟨a, rfl, .inl ⟨avs, .inl h2⟩⟩
        · cases gd
      · cases gd
    obtain ⟨a, rfl, ha⟩ := hp
    refine ⟨a, rfl, ha, run1 (g.mono l1) s1 h1 fun M2 b S2 y H2 l2 s2 r2 h2 => run1 (g.mono (l1.trans l2)) s2 h2 fun M3 z S3 w H3 l3 s3 r3 h3 => ?_⟩
    unfold fDPop2 at h3
    split at h3
    · rename_i n
      split at h3
      · rename_i kds e4
        split at h3
        · rename_i k ek
          obtain ⟨a', avs, hm, e5, h4, ra⟩ := dsto_of s3 (r1.mono (l2.trans l3)) e4
          cases e5
          have h5 := lookK_of k ra
          refine ⟨avs, k, h4, keyOf_of (r2.mono l3) ek, fun v hv => ?_, fun hv => ?_⟩
          · split at h3
            · rename_i d el
              rw [el] at h5
              obtain ⟨v', hv', rv⟩ := h5
              rw [hv] at hv'
              cases hv'
              exact h3.wrote s3 e4 hm ⟨_, rfl, dropG_of k ra⟩ rv
            · rename_i el
              rw [el] at h5
              have h5 : valV avs k = none := h5
              rw [hv] at h5
              cases h5
          · split at h3
            · rename_i d el
              rw [el] at h5
              obtain ⟨v', hv', rv⟩ := h5
              rw [hv] at hv'
              cases hv'
            · exact h3.ok s3 r3
        · exact h3.elim
      · exact h3.elim
    · exact h3.elim
end
end Pd

/-! x != y by an own __eq__ -/
namespace PySem.W
open PySem PySem.Calls PyProof.Rows PyProof.V PySem.Spec
section
variable {prog : Program} {w : World} {A : Around} {E : Value → Shared → Prop} {s : Shared} {K : Frag} {x C L f : Addr} {h₀ : Heap} {m : Str → Option Value} {ox : Obj} {od : Option Obj} {b tb : Value}
def NeBack (Q : Value → Shared → Prop) (v : Value) (s' : Shared) : Prop := match v with
  | .bool r => Q (.bool (!r)) s'
  | _ => False
theorem inst_looks {M : Model} {h : Heap} (X : K.In h) (I : InstAt h x ox C od) (hm : mroIn K C (.type "object") = some true) : Looks M h (isInstance (.ref x) (.type "object")) true :=
  I.type.andThen (looks_mroIn X hm)
theorem check_ne {M : Model} {A : Around} {Q : Unit → Shared → Prop} (X : K.In s.heap) (I : InstAt s.heap x ox C od) (hm : mroIn K C (.type "object") = some true) (h : Q () s) : wpAny M A (checkBuiltinCall "object.__ne__" ⟨[.ref x, b], []⟩) Q E s := by
  have hs : splitId "object.__ne__" = some ("object", "__ne__") := by decide +kernel
  have hk : builtinKind "object.__ne__" = some .slot := by simp only [builtinKind, hs]; decide +kernel
  (simp only [checkBuiltinCall, hk, hs])
  refine wpAny_bind ((inst_looks X I hm).here ?_)
  (simp only [Bool.not_true, Bool.false_eq_true, if_false])
  have ha := PySem.F.args_object_ne_2 (.ref x) b
  cases hsig : Manifest.signature? "object.__ne__" with
  | none => exact wpAny_pure h
  | some sig =>
    (simp only [argsOk, hsig] at ha)
    have h2 : Bind.checkArgs "object.__ne__" sig ⟨[.ref x, b], []⟩ = pure () := ha
    show wpAny M A (Bind.checkArgs "object.__ne__" sig ⟨[.ref x, b], []⟩) Q E s
    rw [h2]; exact wpAny_pure h
theorem call_ne {Q : Value → Shared → Prop} (hu : A.in1.units < cLine) (X : K.In s.heap) (I : InstAt s.heap x ox C od) (hm : mroIn K C (.type "object") = some true)
    (he : findIn K (.ref C) "__eq__" = some (some (.ref f))) (hf : isFn K (.ref f) = true)
    (h : wpAny (model prog w) A.in1 (call (.ref f) [.ref x, b]) (NeBack Q) E s) : wpAny (model prog w) A (call (.builtin "object.__ne__") [.ref x, b]) Q E s := by
  refine wpAny_call (codeAny_call_builtin PySem.F.slot_object_ne.plain PySem.F.entry_object_ne (check_ne X I hm ?_))
  (unfold Builtin.«object.__ne__»)
  refine wpAny_bind (m := slotArgs "__ne__" 1 _) (wpAny_pure ?_)
  refine wpAny_bind (wpAny_cRoomFor hu ?_); refine wpAny_bind (m := callSpecialIfBound? (.ref x) (Str.ofString "__eq__") _) (ifBound_K X I he hf (wpAny_mono h (fun r s' hr => ?_) fun _ _ y => y))
  cases r <;> first | exact hr.elim | skip
  first
    | exact wpAny_bind (wpAny_pure (wpAny_pure hr))
    | exact wpAny_bind (wpAny_pure (wpAny_pure ⟨_, rfl, hr⟩))
theorem cmp_neK {Q : Value → Shared → Prop} (hu : A.units < cLine) (hu1 : A.in1.units < cLine) (F : Fr h₀ L s.heap m) (X₀ : K.In h₀) (I : InstAt s.heap x ox C od) (hb : Looks (model prog w) s.heap (typeOf b) tb) (hn : notFirst K C tb = true)
    (hm : mroIn K C (.type "object") = some true) (hs : findIn K (.ref C) "__ne__" = some (some (.builtin "object.__ne__"))) (he : findIn K (.ref C) "__eq__" = some (some (.ref f))) (hf : isFn K (.ref f) = true)
    (h : wpAny (model prog w) A.in1 (call (.ref f) [.ref x, b]) (NeBack Q) E s) : wpAny (model prog w) A (richCompare .NotEq (.ref x) b) Q E s := by
  have X := X₀.keeps F.keep
  have inner : wpAny (model prog w) A (call (.builtin "object.__ne__") [.ref x, b]) (fun v s' => ∃ r, v = .bool r ∧ Q (.bool r) s') E s := by
    refine call_ne hu1 X I hm he hf (wpAny_mono h (fun v s' hv => ?_) fun _ _ e => e)
    cases v <;> first | exact hv.elim | exact ⟨_, rfl, hv⟩
  have one : wpAny (model prog w) A (tryCompare (.ref x) (cmpInfo .NotEq).2.1 b) (fun r s' => ∃ v, r = some v ∧ Q v s') E s := by
    unfold tryCompare
    refine wpAny_bind ?_
    (simp only [callSpecialIfBound?, bindSpecialIfBound?])
    refine wpAny_holding (wpAny_bind (wpAny_bind (wpAny_bind (I.type.here ((looks_findIn X hs).here ?_))))); refine wpAny_bind (wpAny_askSetting (wpAny_ite ?_))
    have fin : wpAny (model prog w) A (call (.builtin "object.__ne__") ([.ref x] ++ [b]) >>= fun v => pure (some v)) (fun o s' => wpAny (model prog w) A (match o with
      | some .notImplemented => pure none
      | none => pure none
      | some v => pure (some v)) (fun r s' => ∃ v, r = some v ∧ Q v s') E s') E s := wpAny_bind (wpAny_mono inner (fun v s' h' => by
        obtain ⟨r, rfl, hq⟩ := h'
        exact wpAny_pure (wpAny_pure ⟨_, rfl, hq⟩)) fun _ _ h' => h')
    have bd : bindSpecial (.builtin "object.__ne__") (.ref x) = pure (.builtin "object.__ne__", [.ref x]) := PySem.F.slot_object_ne.bind _
    split
    · rw [bd]; exact wpAny_bind (wpAny_pure (wpAny_pure (by exact fin)))
    · rw [bd]; exact wpAny_tryCatch (wpAny_bind (wpAny_pure (wpAny_pure (by exact fin))))
  unfold richCompare
  simp only [oneThing_ref]
  refine wpAny_holding (wpAny_bind (wpAny_cRoomFor hu ?_)); refine wpAny_bind (I.type.here (wpAny_bind (hb.here ?_)))
  split
  · rename_i q
    have e : (subIn K tb (.ref C) = some false) := by
      rcases (Bool.or_eq_true_iff.mp hn) with e | e
      · rw [beq_iff_eq.mp e] at q; simp at q
      · exact beq_iff_eq.mp e
    refine wpAny_bind ((looks_subIn X e).here ?_); simp only [Bool.false_eq_true, if_false]
    refine wpAny_bind (wpAny_mono one (fun r s' z => ?_) fun _ _ e => e); obtain ⟨v, rfl, hq⟩ := z
    exact wpAny_pure hq
  · refine (wpAny_bind (wpAny_pure ?_))
    (simp only [Bool.false_eq_true, if_false])
    refine wpAny_bind (wpAny_mono one (fun r s' z => ?_) fun _ _ e => e); obtain ⟨v, rfl, hq⟩ := z
    exact wpAny_pure hq
end
end PySem.W

/-! pure defs: what is frozen gives what is frozen, whatever else lies in the store -/
namespace Pd
open L2 PySem PySem.Spec PyProof.Rows

mutual
def noR : D → Bool
  | .ref _ => false
  | .tup ds => noRL ds
  | .ctp ds => noRL ds
  | .lst ds => noRL ds
  | .frl ds => noRL ds
  | .dct kvs => noRK kvs
  | .dtt kvs => noRT kvs
  | .kdc kvs => noRS kvs
  | .ins _ fs => noRF fs
  | .xn _ fs => noRF fs
  | _ => true
def noRL : List D → Bool
  | [] => true
  | d :: r => (match noR d with
    | true => noRL r
    | false => false)
def noRK : List (Key × D) → Bool
  | [] => true
  | (_, d) :: r => (match noR d with
    | true => noRK r
    | false => false)
def noRT : List (List Key × D) → Bool
  | [] => true
  | (_, d) :: r => (match noR d with
    | true => noRT r
    | false => false)
def noRS : List (Str × D) → Bool
  | [] => true
  | (_, d) :: r => (match noR d with
    | true => noRS r
    | false => false)
def noRF : List (Nat × D) → Bool
  | [] => true
  | (_, d) :: r => (match noR d with
    | true => noRF r
    | false => false)
end
theorem noRL_cons {d : D} {r : List D} (h : noRL (d :: r) = true) : noR d = true ∧ noRL r = true := by
  have h : (match noR d with
    | true => noRL r
    | false => false) = true := h
  cases e : noR d with
  | true => rw [e] at h; exact ⟨rfl, h⟩
  | false => rw [e] at h; cases h
theorem noRL_get : ∀ {ds : List D} {i : Nat} {d : D}, noRL ds = true → ds[i]? = some d → noR d = true
  | [], _, _, _, e => by simp at e
  | d :: r, 0, e, h, q => by simp at q; subst q; exact (noRL_cons h).1
  | d :: r, i + 1, e, h, q => noRL_get (noRL_cons h).2 (by simpa using q)
theorem noRK_get : ∀ {ds : List (Key × D)} {i : Nat} {k : Key} {d : D}, noRK ds = true → ds[i]? = some (k, d) → noR d = true
  | [], _, _, _, _, e => by simp at e
  | (k', d) :: r, i, k, e, h, q => by
    have h : (match noR d with
      | true => noRK r
      | false => false) = true := h
    cases e1 : noR d with
    | false => rw [e1] at h; cases h
    | true =>
      rw [e1] at h
      cases i with
      | zero => simp at q; obtain ⟨rfl, rfl⟩ := q; exact e1
      | succ i => exact noRK_get (i := i) h (by simpa using q)
theorem noRT_get : ∀ {ds : List (List Key × D)} {i : Nat} {k : List Key} {d : D}, noRT ds = true → ds[i]? = some (k, d) → noR d = true
  | [], _, _, _, _, e => by simp at e
  | (k', d) :: r, i, k, e, h, q => by
    have h : (match noR d with
      | true => noRT r
      | false => false) = true := h
    cases e1 : noR d with
    | false => rw [e1] at h; cases h
    | true =>
      rw [e1] at h
      cases i with
      | zero => simp at q; obtain ⟨rfl, rfl⟩ := q; exact e1
      | succ i => exact noRT_get (i := i) h (by simpa using q)
theorem noRS_get : ∀ {ds : List (Str × D)} {i : Nat} {k : Str} {d : D}, noRS ds = true → ds[i]? = some (k, d) → noR d = true
  | [], _, _, _, _, e => by simp at e
  | (k', d) :: r, i, k, e, h, q => by
    have h : (match noR d with
      | true => noRS r
      | false => false) = true := h
    cases e1 : noR d with
    | false => rw [e1] at h; cases h
    | true =>
      rw [e1] at h
      cases i with
      | zero => simp at q; obtain ⟨rfl, rfl⟩ := q; exact e1
      | succ i => exact noRS_get (i := i) h (by simpa using q)
theorem noRF_get : ∀ {ds : List (Nat × D)} {i : Nat} {k : Nat} {d : D}, noRF ds = true → ds[i]? = some (k, d) → noR d = true
  | [], _, _, _, _, e => by simp at e
  | (k', d) :: r, i, k, e, h, q => by
    have h : (match noR d with
      | true => noRF r
      | false => false) = true := h
    cases e1 : noR d with
    | false => rw [e1] at h; cases h
    | true =>
      rw [e1] at h
      cases i with
      | zero => simp at q; obtain ⟨rfl, rfl⟩ := q; exact e1
      | succ i => exact noRF_get (i := i) h (by simpa using q)
section
variable {C : Cfg} {M M' : Wd}
theorem Rep.frzOnly (l : ∀ a o, M.fz a = some o → M'.fz a = some o) {d : D} {v : V} (r : Rep C M d v) : noR d = true → Rep C M' d v := by
  induction r with
  | non => exact fun _ => .non
  | bl b => exact fun _ => .bl b
  | int i => exact fun _ => .int i
  | str x => exact fun _ => .str x
  | ty n => exact fun _ => .ty n
  | glo g => exact fun _ => .glo g
  | ref h => exact fun h => nomatch h
  | tup h hl _ ih => exact fun n => .tup (l _ _ h) hl fun i d v a b => ih i d v a b (noRL_get n a)
  | ctp h hl _ ih => exact fun n => .ctp (sqP_mono l h) hl fun i d v a b => ih i d v a b (noRL_get n a)
  | dtt h hl _ ih => exact fun n => .dtt (rd_mono l h) hl fun i k d k' v a b => ih i k d k' v a b (noRT_get n a)
  | kdc h hl hk hn _ ih => exact fun n => .kdc h hl hk hn fun i x d v a b => ih i x d v a b (noRS_get n a)
  | lst h hl _ ih => exact fun n => .lst (l _ _ h) hl fun i d v a b => ih i d v a b (noRL_get n a)
  | frl h hl _ ih => exact fun n => .frl (sqL_mono l h) hl fun i d v a b => ih i d v a b (noRL_get n a)
  | dct h hl _ ih => exact fun n => .dct (rd_mono l h) hl fun i k d k' v a b => ih i k d k' v a b (noRK_get n a)
  | ins h hl _ ih => exact fun n => .ins (l _ _ h) hl fun i k d k' v a b => ih i k d k' v a b (noRF_get n a)
  | xn h h2 hl _ ih => exact fun n => .xn (l _ _ h) (l _ _ h2) hl fun i k d k' v a b => ih i k d k' v a b (noRF_get n a)
  | xn0 h => exact fun _ => .xn0 (l _ _ h)
theorem RepL.frzOnly (l : ∀ a o, M.fz a = some o → M'.fz a = some o) {ds : List D} {vs : List V} (r : RepL C M ds vs) (h : noRL ds = true) : RepL C M' ds vs := ⟨r.1, fun i d v a b => (r.2 i d v a b).frzOnly l (noRL_get h a)⟩
theorem RepM.noTup : ∀ {m : MO} {o : HO}, RepM C M m o → ∀ vs, o ≠ .tup vs
  | .lst _, _, ⟨_, e, _⟩, _, z => by rw [e] at z; cases z
  | .dct _, _, ⟨_, e, _⟩, _, z => by rw [e] at z; cases z
  | .dtt _, _, ⟨_, e, _⟩, _, z => by rw [e] at z; cases z
  | .ins _ _, _, ⟨_, _, e, _⟩, _, z => by rw [e] at z; cases z
  | .lck _, _, ⟨_, _, e, _⟩, _, z => by rw [e] at z; cases z
end
/-- a def on what is frozen: run at a store of its own -/
def loc (f : List D → Sto → Res D) : List D → Sto → Res D := fun ds S => match noRL ds with
  | true => (match f ds ⟨0, []⟩ with
    | .ok d _ => (match noR d with
      | true => .ok d S
      | false => f ds S)
    | _ => f ds S)
  | false => f ds S
open Classical in
/-- what lies in the store is kept as it is -/
noncomputable def hide (M : Wd) (S : Sto) (H : Hp) : Wd := ⟨M.fz, fun _ => none, M.lk, fun a => match M.kp a with
  | some o => some o
  | none => if ∃ n m, S.at n = some m ∧ M.mu n = some a then H a else none⟩
section
variable {C : Cfg} {M : Wd} {S : Sto} {H : Hp}
theorem hide_kp {a : Addr} {o : HO} (h : M.kp a = some o) : (hide M S H).kp a = some o := by
  show (match M.kp a with
    | some o => some o
    | none => _) = _
  rw [h]
theorem hide_st (s : Sim C M S H) {n : Nat} {m : MO} {a : Addr} (hm : S.at n = some m) (ha : M.mu n = some a) : (hide M S H).kp a = H a := by
  show (match M.kp a with
    | some o => some o
    | none => _) = _
  cases e : M.kp a with
  | some o => exact absurd ha ((s.kp a o e).2.2.2 n (by rw [hm]; rfl))
  | none => exact if_pos ⟨n, m, hm, ha⟩
theorem Sim.hide (s : Sim C M S H) : Sim C (Pd.hide M S H) ⟨0, []⟩ H := by
  refine ⟨s.fr, fun n m e => (nomatch e), fun n n' b e => (nomatch e), fun n b e => (nomatch e), s.lk, fun a o e => ?_⟩
  cases ek : M.kp a with
  | some o' =>
    rw [hide_kp ek] at e; cases e
    obtain ⟨k1, k2, k3, _⟩ := s.kp a _ ek
    exact ⟨k1, k2, k3, fun n z => nomatch z⟩
  | none =>
    have e : (match M.kp a with
      | some o => some o
      | none => _) = some o := e
    rw [ek] at e
    dsimp only at e
    split at e
    · rename_i q
      obtain ⟨n, m, hm, ha⟩ := q
      obtain ⟨b, u, h1, h2, h3, h4⟩ := s.al n m hm
      rw [ha] at h1; cases h1
      rw [h2] at e; cases e
      exact ⟨h2, h3, h4.noTup, fun n z => nomatch z⟩
    · cases e
/-- .. and is there again -/
theorem Sim.show (s : Sim C M S H) {M' : Wd} {S' : Sto} {H' : Hp} (l : (Pd.hide M S H).le M') (s' : Sim C M' S' H') : M.le ⟨M'.fz, M.mu, M'.lk, M.kp⟩ ∧ Sim C ⟨M'.fz, M.mu, M'.lk, M.kp⟩ S H' := by
  refine ⟨⟨l.1, fun _ _ h => h, l.2.2.1, fun _ _ h => h⟩, s'.fr, fun n m e => ?_, s.inj, s.nx, s'.lk, fun a o e => ?_⟩
  · obtain ⟨a, o, h1, h2, h3, h4⟩ := s.al n m e
    have k := hide_st s e h1
    rw [h2] at k
    obtain ⟨k1, k2, _⟩ := s'.kp a o (l.2.2.2 _ _ k)
    exact ⟨a, o, h1, k1, k2, RepM.monoV (M := M) (M' := ⟨M'.fz, M.mu, M'.lk, M.kp⟩) ⟨l.1, fun _ _ h => h⟩ h4⟩
  · obtain ⟨k1, k2, k3, _⟩ := s'.kp a o (l.2.2.2 _ _ (hide_kp e))
    exact ⟨k1, k2, k3, (s.kp a o e).2.2.2⟩
theorem loc_good {f : List D → Sto → Res D} {ds : List D} {vs : List V} {Q : VK} {W : XK} (s : Sim C M S H) (r : RepL C M ds vs) (h : GoodE C M (loc f ds S) Q W) :
    ∃ M0 S0, Sim C M0 S0 H ∧ RepL C M0 ds vs ∧ GoodE C M0 (f ds S0) Q W := by
  have plain : GoodE C M (f ds S) Q W → ∃ M0 S0, Sim C M0 S0 H ∧ RepL C M0 ds vs ∧ GoodE C M0 (f ds S0) Q W := fun h => ⟨M, S, s, r, h⟩
  unfold loc at h
  split at h
  · rename_i n
    split at h
    · rename_i d S1 e
      split at h
      · rename_i nd
        refine ⟨hide M S H, ⟨0, []⟩, s.hide, RepL.frzOnly (M := M) (M' := hide M S H) (fun _ _ h => h) r n, ?_⟩
        rw [e]
        intro M' v H' l s' rv
        obtain ⟨l2, s2⟩ := s.show l s'
        exact h _ _ _ l2 s2 (Rep.frzOnly (M := M') (M' := ⟨M'.fz, M.mu, M'.lk, M.kp⟩) (fun _ _ h => h) rv nd)
      · exact plain h
    · exact plain h
  · exact plain h
theorem loc_ok {f : List D → Sto → Res D} {ds : List D} {d : D} {S1 : Sto} (h : noRL ds = true) (e : f ds ⟨0, []⟩ = .ok d S1) (n : noR d = true) (S : Sto) : loc f ds S = .ok d S := by
  unfold loc; rw [h]; dsimp only; rw [e]; dsimp only; rw [n]
theorem loc_ref {f : List D → Sto → Res D} {ds : List D} (h : noRL ds = false) (S : Sto) : loc f ds S = f ds S := by
  unfold loc; rw [h]
end
theorem OkF.loc {P : Program} {w : World} {K : PySem.W.Frag} {mg : Str → Option Value} {base : Heap} {C : Cfg} {k n : Nat} {a : Addr} {f : List D → Sto → Res D} (F : OkF P w K mg base C k a n f) : OkF P w K mg base C k a n (Pd.loc f) := by
  obtain ⟨fd, ps, F, hk, hb⟩ := F
  refine ⟨fd, ps, F.imp fun vs H Q E ⟨M, S, ds, hl, s, r, h⟩ => ?_, hk, hb⟩
  obtain ⟨M0, S0, s0, r0, h0⟩ := loc_good s r h
  exact ⟨M0, S0, ds, hl, s0, r0, h0⟩
theorem okl2 {P : Program} {w : World} {K : PySem.W.Frag} {mg : Str → Option Value} {base : Heap} {C : Cfg} {k n : Nat} {a : Addr} {f g : List D → Sto → Res D} (e : g = Pd.loc f) (F : OkF P w K mg base C k a n f) : OkF P w K mg base C k a n g := e ▸ F.loc
/-- a new instance, frozen at once -/
def mk (c n : Nat) (f : List D → Sto → Res D) : List D → Sto → Res D := fun ds S => (guard (lenIs n (.ref S.nx :: ds)) ((f (.ref S.nx :: ds) (S.new (.ins c []))).bind fun r S2 => ifNon r (.ok (.ref S.nx) S2))).bind frz
def dMakeP (c n : Nat) (f : List D → Sto → Res D) (fr : DA) : DE := fun Γ S => (fr Γ S).bind (loc (mk c n f))
section
variable {C : Cfg} {M : Wd} {S : Sto} {H : Hp} {W : XK}
theorem GoodE.unfrz {r : Res D} {Q : VK} (h : GoodE C M (r.bind frz) Q W) : GoodE C M r Q W := by
  cases r with
  | bad => exact h
  | exc c fs S => exact h
  | ok d S =>
    intro M' v H' l s r
    exact frz_ok s r (GoodE.mono l (show GoodE C M (frz d S) Q W from h))
variable {X : Cx} {k n : Nat} {fI : Addr} {fn : List D → Sto → Res D} {x : Str} {p pos : Pos} {e : Expr} {es : List Expr} {fr : DA}
theorem zmakeP {c : Nat} (Mk' : Mk X.K (C.ga c) fI) (F : OkF X.prog X.w X.K X.mg X.base C k fI n fn) (hr : Room (k + 1) X.A) (hg : Gl X x) (hm : X.mg x = some (.ref (C.ga c))) (ha : PA X (e :: es) (tA C W fr)) (hdb : (x == ("__debug__" : Str)) = false := by decide) (he : starEach (e :: es) X.env = (false, eval e X.env) :: starEach es X.env := by rfl)
    (hpl : (backTo pos (starEach es X.env)).any (·.1) = false := by rfl) : PE X (.Call (.Name x p) (e :: es) [] pos) (tE C W (dMakeP c n fn fr)) := by
  obtain ⟨fd, ps, F, hk, hb⟩ := F
  exact (pe_make Mk' F hr hg hm hb .nil (fun _ _ _ _ _ _ _ h => h.elim) ha hdb he hpl).by fun σ H Q ⟨M, Γ, S, g, s, h⟩ => runA g s h fun M1 ds S1 vs H1 l1 s1 r1 h1 => fun y dx hy hd ne => by
    obtain ⟨M0, S0, s0, r0, h0⟩ := loc_good s1 r1 h1
    exact make_rd s0 r0 hy hd ne (GoodE.unfrz h0)
theorem zmakePS {c : Nat} (Mk' : Mk X.K (C.ga c) fI) (F : OkF X.prog X.w X.K X.mg X.base C k fI n fn) (hr : Room (k + 1) X.A) (hg : Gl X x) (hm : X.mg x = some (.ref (C.ga c))) (ha : PA X (e :: es) (tA C W fr)) (hd : (x == ("__debug__" : Str)) = false := by decide) (he : starEach (e :: es) X.env = (false, eval e X.env) :: starEach es X.env := by rfl)
    (hst : (backTo pos (starEach es X.env)).any (·.1) = true := by rfl) : PE X (.Call (.Name x p) (e :: es) [] pos) (tE C W (dMakeP c n fn fr)) := by
  obtain ⟨fd, ps, F, hk, hb⟩ := F
  exact (pe_makeS Mk' F hr hg hm hb (fun _ _ _ _ _ _ _ h => h.elim) ha hd he hst).by fun σ H Q ⟨M, Γ, S, g, s, h⟩ => runA g s h fun M1 ds S1 vs H1 l1 s1 r1 h1 => fun y dx hy hd ne => by
    obtain ⟨M0, S0, s0, r0, h0⟩ := loc_good s1 r1 h1
    exact make_rd s0 r0 hy hd ne (GoodE.unfrz h0)
/-! ### what a slot holds is frozen from here on -/
theorem frz_step {d d' : D} {S2 : Sto} {v : V} (s : Sim C M S H) (r : Rep C M d v) (q : frz d S = .ok d' S2) : ∃ M2, M.le M2 ∧ Sim C M2 S2 H ∧ Rep C M2 d' v := by
  unfold frz at q
  split at q
  · rename_i n
    cases r
    rename_i a hm
    cases e : S.at n with
    | none => rw [e] at q; cases q
    | some m =>
      obtain ⟨b, o, h1, h2, h3, h4⟩ := s.freeze e
      rw [hm] at h1; cases h1
      have l : M.le (M.lay a o) := Wd.lay_le h3
      rw [e] at q
      cases m with
      | lst ds =>
        obtain ⟨vs, rfl, r⟩ := h2
        cases q
        exact ⟨_, l, h4, .lst (show upd M.fz a (.lst vs) a = _ from upd_same) r.1 (r.mono l).2⟩
      | dct ds =>
        obtain ⟨vs, rfl, r⟩ := h2
        cases q
        exact ⟨_, l, h4, .dct (.inl (show upd M.fz a (.dK vs) a = _ from upd_same)) r.1 (r.mono l).2⟩
      | dtt ds =>
        obtain ⟨vs, rfl, r⟩ := h2
        cases q
        exact ⟨_, l, h4, .dtt (.inl (show upd M.fz a (.dT vs) a = _ from upd_same)) r.1 (r.mono l).2⟩
      | lck m => cases q
      | ins c fs =>
        obtain ⟨dx, fv, rfl, r⟩ := h2
        cases q
        exact ⟨_, l, h4, .ins (show upd M.fz a (.ins (C.ga c) dx fv) a = _ from upd_same) r.1 (r.mono l).2⟩
  · cases q
    exact ⟨M, .refl M, s, r⟩
def sFrz (f : DS) (i : Nat) : DS := fun Γ S => match f Γ S with
  | .nx Γ1 S1 => (match Γ1[i]? with
    | some (some d) => (match frz d S1 with
      | .ok d' S2 => .nx (Γ1.set i (some d')) S2
      | _ => .bad)
    | _ => .bad)
  | r => r
theorem SimG.put {Γ : Ga} {σ : L2.St} {i : Nat} {d d' : D} {v : V} (g : SimG C M Γ σ) (e : Γ[i]? = some (some d)) (ev : σ[i]? = some (some v)) (r : Rep C M d' v) : SimG C M (Γ.set i (some d')) σ := by
  refine ⟨by rw [List.length_set]; exact g.1, fun j x h => ?_⟩
  by_cases hj : i = j
  · subst hj
    rw [List.getElem?_set_self (List.getElem?_eq_some_iff.mp e).1] at h
    cases h
    exact ⟨v, ev, r⟩
  · rw [List.getElem?_set_ne hj] at h
    exact g.2 j x h
theorem yfrz {st : Stmt} {f : DS} (i : Nat) (h : PS X st (tS C W f)) : PS X st (tS C W (sFrz f i)) := h.by fun D σ H ⟨M, Γ, S, g, s, q⟩ => by
  refine ⟨M, Γ, S, g, s, ?_⟩
  unfold sFrz at q
  cases e : f Γ S with
  | nx Γ1 S1 =>
    rw [e] at q
    dsimp only at q
    intro M' σ' H' l g' s'
    split at q
    · rename_i d ed
      split at q
      · rename_i d' S2 ef
        obtain ⟨v, ev, rv⟩ := g'.2 i d ed
        obtain ⟨M2, l2, s2, r2⟩ := frz_step s' rv ef
        exact q M2 σ' H' (l.trans l2) ((g'.mono l2).put ed ev r2) s2
      · exact q.elim
    · exact q.elim
  | rt d S1 => rw [e] at q; exact q
  | bk Γ1 S1 => rw [e] at q; exact q
  | ct Γ1 S1 => rw [e] at q; exact q
  | exc c fs S1 => rw [e] at q; exact q
  | bad => rw [e] at q; exact q
end
end Pd

/-! x != y by an own __eq__; isinstance of an own class where others are about; d.update(dict) -/
namespace Pd
open L2 PySem PySem.Spec PyProof.Rows

def rONe (C : Cfg) (c : Nat) (sp : Sp) (W : XK) : R2 := fun x y H Q => ∃ a dx fs t, x = .ref a ∧ H a = some (.ins (C.ga c) dx fs) ∧ TyZ C.K H y t ∧ PySem.W.notFirst C.K (C.ga c) t = true ∧ sp [x, y] H (fun v H' => ∃ b, v = .bl b ∧ Q (.bl (!b)) H') W
def notOnly (r : Res D) : Res D := r.bind fun d S => match d with
  | .bl b => .ok (.bl (!b)) S
  | _ => .bad
def fONe (c : Nat) (fe : List D → Sto → Res D) : D → D → Sto → Res D := fun a b S => match insV S a with
  | some (c', _) => guard (Nat.beq c' c) (match ownIs c S b with
    | some _ => notOnly (fe [a, b] S)
    | none => .bad)
  | none => .bad
def NeK (K : PySem.W.Frag) (c : Addr) : Prop := PySem.W.findIn K (.ref c) "__ne__" = some (some (.builtin "object.__ne__"))
def neB (K : PySem.W.Frag) (c : Addr) : Bool := He.eqO (PySem.W.findIn K (.ref c) "__ne__") (some (some (.builtin "object.__ne__")))
theorem neB_ok {K : PySem.W.Frag} {c : Addr} (h : neB K c = true) : NeK K c := He.eqO_ok h
section
variable {X : Cx} {C : Cfg} {W : XK} {M : Wd} {S : Sto} {H : Hp}
theorem GoodE.notOnly {r : Res D} {Q : VK} (h : GoodE C M (notOnly r) Q W) : GoodE C M r (fun v H => ∃ b, v = .bl b ∧ Q (.bl (!b)) H) W := by
  unfold Pd.notOnly at h
  cases r with
  | bad => exact h
  | exc c fs S => exact h
  | ok d S =>
    cases d with
    | bl b =>
      intro M' v H' l s r
      cases r
      exact ⟨b, rfl, h M' _ H' l s (.bl _)⟩
    | _ => exact False.elim h
theorem op_one {k : Nat} {f : Addr} {c : Nat} {fe : List D → Sto → Res D} (hK : X.K = C.K) (o : OwnC C.K (C.ga c)) (ne : NeK C.K (C.ga c)) (F : OkF X.prog X.w X.K X.mg X.base C k f 2 fe) (hr : Room (k + 1) X.A) (hm : Meth X.K (C.ga c) "__eq__" f) : OpR X (compareOp .NotEq) (rONe C c (spD C 2 fe) W) := by
  intro pins s σ H x y v u Q I rx ry h; obtain ⟨a, dx, fs, t, rfl, ha, ty, hn, sp⟩ := h
  cases rx
  obtain ⟨fd, ps, F, hk, hb⟩ := F
  obtain ⟨mA, J, _⟩ := ins_get I.hok ha; obtain ⟨od, J, _⟩ := J.look
  obtain ⟨m, hF⟩ := I.fr
  show wpAny (model X.prog X.w) X.A (richCompare .NotEq (.ref a) u) (EP X pins σ Q) X.xe s
  refine PySem.W.cmp_neK (tb := t) hr.units0 hr.in1.units0 hF I.ok.mod.kin J (looks_ty I ry (hK ▸ ty)) (hK ▸ hn) (hK ▸ o.hm) (hK ▸ ne) hm.at_ hm.fn ?_
  have e0 : Env0 X.prog X.w X.K X.mg X.base X.A.in1 X.stack s H := by
    have e := I.env0
    exact ⟨e.frames, e.mod, e.bs, e.bsz, e.funs, e.frf, e.hok, e.bare⟩
  have hl := F.len _ _ _ _ sp
  have r2 : Vals [V.ref a, y] [Value.ref a, u] := .cons rfl (.cons ry .nil)
  refine wpAny_call (codeAny_mono (F.run X.A.in1 X.stack s H ⟨[.ref a, u], []⟩ [.ref a, u] [.ref a, y] _ W hr.in1 e0 (by
    have := hb s [.ref a, u] I.kIn (by simpa using hl)
    simpa using this) r2 sp) fun r s' hq => ?_)
  cases r with
  | error e => exact pass0 pins σ H s e s' I hq
  | ok fl =>
    cases fl with
    | ret w =>
      obtain ⟨z, H', I', rz, ⟨b, ez, q⟩⟩ := I.after hq
      subst ez
      cases rz
      exact ⟨.bl (!b), H', I', rfl, q⟩
    | next => exact False.elim hq
    | brk => exact False.elim hq
    | cont => exact False.elim hq
theorem oONe {k : Nat} {f : Addr} {c : Nat} {fe : List D → Sto → Res D} (hK : X.K = C.K) (o : OwnC C.K (C.ga c)) (ne : NeK C.K (C.ga c)) (F : OkF X.prog X.w X.K X.mg X.base C k f 2 fe) (hr : Room (k + 1) X.A) (hm : Meth X.K (C.ga c) "__eq__" f) : OpD X C W (compareOp .NotEq) (fONe c fe) := by
  refine ⟨_, op_one (W := W) hK o ne F hr hm, fun M S H a b x y Q s ra rb q => ?_⟩
  unfold fONe at q
  split at q
  · rename_i c' fs e
    obtain ⟨g1, q⟩ := guard_ok q
    have := Nat.eq_of_beq_eq_true g1
    subst this
    obtain ⟨p, dx, fv, rfl, ha, rf⟩ := ins_of s ra e
    split at q
    · rename_i bb e2
      obtain ⟨t, h2, _, h3⟩ := ownIs_of o s rb e2
      exact ⟨p, dx, fv, t, rfl, ha, h2, h3, M, S, [a, b], rfl, s, .cons ra (.cons rb .nil), q.notOnly⟩
    · exact q.elim
  · exact q.elim
/-! ### isinstance, other own classes about -/
def OthK (K : PySem.W.Frag) (a b : Addr) : Prop := PySem.W.kitOne K (.ref a) (.ref b) = some false
def othB (K : PySem.W.Frag) (a b : Addr) : Bool := obt (PySem.W.kitOne K (.ref a) (.ref b)) false
theorem othB_ok {K : PySem.W.Frag} {a b : Addr} (h : othB K a b = true) : OthK K a b := obt_ok h
def memNt (n : Nat) : List Nat → Bool
  | [] => false
  | k :: r => (match Nat.beq n k with
    | true => true
    | false => memNt n r)
theorem memNt_ok {n : Nat} : ∀ {l : List Nat}, memNt n l = true → n ∈ l
  | [], h => by cases h
  | k :: r, h => by
    have h : (match Nat.beq n k with
      | true => true
      | false => memNt n r) = true := h
    cases e : Nat.beq n k with
    | true => rw [Nat.eq_of_beq_eq_true e]; exact List.mem_cons_self
    | false => rw [e] at h; exact List.mem_cons_of_mem _ (memNt_ok h)
def ownIsN (os : List Nat) (c : Nat) (S : Sto) (d : D) : Option Bool := match insV S d with
  | some (c', _) => (match Nat.beq c' c with
    | true => some true
    | false => (match memNt c' os with
      | true => some false
      | false => none))
  | none => (match tkOf S d with
    | some _ => some false
    | none => none)
theorem ownIsN_of {os : List Nat} {c : Nat} {d : D} {x : V} {b : Bool} (o : OwnC C.K (C.ga c)) (ot : ∀ j ∈ os, OwnC C.K (C.ga j) ∧ OthK C.K (C.ga j) (C.ga c)) (s : Sim C M S H) (r : Rep C M d x) (h : ownIsN os c S d = some b) :
    ∃ t, TyZ C.K H x t ∧ PySem.W.kitOne C.K t (.ref (C.ga c)) = some b := by
  unfold ownIsN at h
  split at h
  · rename_i c' fs e
    obtain ⟨a, dx, fv, rfl, ha, rf⟩ := ins_of s r e
    split at h
    · rename_i e2
      cases h
      have := Nat.eq_of_beq_eq_true e2
      subst this
      exact ⟨_, .x (.base (.ins ha o.cl o.ha o.hn o.htk o.hm)), kit_self⟩
    · split at h
      · rename_i e2
        cases h
        obtain ⟨o', hk⟩ := ot c' (memNt_ok e2)
        exact ⟨_, .x (.base (.ins ha o'.cl o'.ha o'.hn o'.htk o'.hm)), hk⟩
      · cases h
  · split at h
    · rename_i k e
      cases h
      exact ⟨_, tkOf_of s r e, kit_other o k⟩
    · cases h
def dIsN (os : List Nat) (c : Nat) (fa : DE) : DE := fun Γ S => (fa Γ S).bind fun d S1 => match ownIsN os c S1 d with
  | some b => .ok (.bl b) S1
  | none => .bad
theorem xisN {e ce : Expr} {fa : DE} {p pos : Pos} (os : List Nat) {c : Nat} (hK : X.K = C.K) (o : OwnC C.K (C.ga c)) (ot : ∀ j ∈ os, OwnC C.K (C.ga j) ∧ OthK C.K (C.ga j) (C.ga c)) (hg : Gl X "isinstance") (hm : X.mg "isinstance" = none) (ha : PE X e (tE C W fa)) (hc : PE X ce (tC (.ref (C.ga c))))
    (he : starEach [e, ce] X.env = (false, eval e X.env) :: starEach [ce] X.env := by rfl) (he2 : starEach [ce] X.env = (false, eval ce X.env) :: starEach [] X.env := by rfl) (hpl : (backTo pos (starEach [ce] X.env)).any (·.1) = false := by rfl) :
    PE X (.Call (.Name "isinstance" p) [e, ce] [] pos) (tE C W (dIsN os c fa)) :=
  (pe_callB call_isZ hg hm (by rfl) (pa_cons ha (pa_cons hc pa_nil he2) he) (by decide) (by decide) he hpl).by fun σ H Q ⟨M, Γ, S, g, s, h⟩ => run1 g s h fun M1 d S1 x H1 l1 s1 r1 h1 => by
    split at h1
    · rename_i b e
      obtain ⟨t, h2, h3⟩ := ownIsN_of o ot s1 r1 e
      exact ⟨x, _, t, _, b, rfl, .own _, hK ▸ h2, hK ▸ h3, h1.ok s1 (.bl _)⟩
    · exact h1.elim
theorem oth_nil {P : Nat → Prop} : ∀ j ∈ ([] : List Nat), P j := fun _ h => nomatch h
theorem oth_cons {P : Nat → Prop} {k : Nat} {r : List Nat} (h : P k) (t : ∀ j ∈ r, P j) : ∀ j ∈ k :: r, P j := fun j hj => by
  rcases List.mem_cons.mp hj with rfl | hj
  · exact h
  · exact t j hj
/-! ### d.update(dict) -/
def rUpdD : V → List V → Hp → VK → Prop := fun x vs H Q => ∃ (d a : Addr) (acc kvs : List (Key × V)), x = .ref d ∧ vs = [.ref a] ∧ d ≠ a ∧ H d = some (.dK acc) ∧ Rd H a (.dK kvs) ∧
  acc.length + kvs.length ≤ sizeLine ∧ Q .non (upd H d (.dK (mergeK acc kvs)))
theorem mt_updD (hc : X.calm = true) : MtR X "dict.update" rUpdD := by
  intro pins s σ H x vs v us Q I rx rv h; obtain ⟨d, a, acc, kvs, rfl, rfl, nda, hd, ha, hz, q⟩ := h
  cases rx
  obtain ⟨u, rfl, ru⟩ := rv.one
  cases ru
  obtain ⟨z, hm, dvs, drel, dd⟩ := dk_of I.hok hd
  obtain ⟨z2, hm2, avs, arel, ad⟩ := dk_rd I.hok ha
  refine call_meetsIn PySem.F.slot_dict_update dd.typeIs PySem.F.entry_dict_update (PySem.F.args_dict_update_2 _ _) (PySem.meets_dict_update (mixKind X.prog X.w) d a nda hm2) ⟨dvs, avs, dd, ad, by rw [← drel.length, ← arel.length]; exact hz, fun h' hd' ha' hs => ?_⟩
  have hz' : (mergeK acc kvs).length ≤ sizeLine := Nat.le_trans (length_mergeK kvs acc) hz
  have he : ∃ o, h'.get? d = some o := let ⟨o, _, _, h1, _⟩ := hd'; ⟨o, h1⟩
  exact ⟨.non, _, I.write (t' := s.toks) (x := d) (e := d) (by rw [hd]; exact True.intro) (.inl rfl) (fun b o hb e => by rw [hs.2 b hb]; exact e) he (dk_new hz' hm (KV.merge arel drel) hd'), rfl, q⟩
def gUpdD : D → List D → Sto → Res D := fun d ds S => match d with
  | .ref n => (match S.at n with
    | some (.dct acc) => (match ds with
      | [.dct kds] => guard (lineOk (acc.length + kds.length)) (.ok .non (S.set n (.dct (mergeG eqK acc kds))))
      | _ => .bad)
    | _ => .bad)
  | _ => .bad
theorem mUpdD (hc : X.calm = true) : MtD X C W "dict.update" gUpdD := by
  refine ⟨_, mt_updD hc, fun M S H d ds x vs Q s r rl q => ?_⟩
  unfold gUpdD at q
  split at q
  · rename_i n
    split at q
    · rename_i acc e
      cases r
      rename_i a hm
      obtain ⟨b, o, h1, h2, hnz, h3⟩ := s.al n _ e
      rw [hm] at h1
      cases h1
      obtain ⟨avs, rfl, ra⟩ := h3
      split at q
      · rename_i kds
        obtain ⟨g, q⟩ := guard_ok q
        obtain ⟨v, rfl, ry⟩ := one_of rl
        cases ry
        rename_i p kvs hp hl hr
        have nap : a ≠ p := fun z => by
          subst z
          rcases hp with hp | ⟨ob, hp⟩
          · rw [hnz] at hp; cases hp
          · rw [hnz] at hp; cases hp
        have rdp : Rd H p (.dK kvs) := by
          rcases hp with hp | ⟨ob, hp⟩
          · rcases s.fr _ _ hp with z | ⟨_, ob, z⟩
            · exact .inl z
            · exact .inr ⟨ob, z⟩
          · rcases s.fr _ _ hp with z | ⟨q, _⟩
            · exact .inr ⟨ob, z⟩
            · exact q.elim
        have rk : RepG C M kds kvs := ⟨hl, hr⟩
        refine ⟨a, p, avs, kvs, rfl, rfl, nap, h2, rdp, ?_, q.wrote s e hm ⟨_, rfl, mergeG_of ra rk⟩ .non⟩
        have l1 := (show RepG C M acc avs from ra).length
        have l2 := rk.length
        rw [← l1, ← l2]
        exact lineOk_ok g
      · exact q.elim
    · exact q.elim
  · exact q.elim
end
end Pd

/-! a[i], b[j] = x, y -/
namespace Pd
open L2 PySem PySem.Spec PyProof.Rows

def sPut2 (fv o1 i1 o2 i2 : DE) : DS := fun Γ S => (fv Γ S).then fun v S1 => match v with
  | .tup [a, b] => (o1 Γ S1).then fun x S2 => (i1 Γ S2).then fun k S3 => match fPut x k a S3 with
    | some S4 => (o2 Γ S4).then fun x2 S5 => (i2 Γ S5).then fun k2 S6 => match fPut x2 k2 b S6 with
      | some S7 => .nx Γ S7
      | none => .bad
    | none => .bad
  | _ => .bad
section
variable {X : Cx} {C : Cfg} {W : XK} {M : Wd} {S : Sto} {H : Hp}
theorem yput2 {oa ia ob ib e : Expr} {tpos : Pos} {fv o1 i1 o2 i2 : DE} {pos pa pb : Pos} {k : Nat} (hK : X.K = C.K) (hc : X.calm = true) (hu : X.A.units + 1 < cLine) (he : PE X e (tE C W fv)) (ha : PE X oa (tE C W o1)) (hai : PE X ia (tE C W i1)) (hb : PE X ob (tE C W o2)) (hbi : PE X ib (tE C W i2))
    (hs : swapsWithSole [.Tuple [.Subscript oa ia pa, .Subscript ob ib pb] k tpos] e pos.line X.env = pure false := by rfl) (hw : swappedStores [.Tuple [.Subscript oa ia pa, .Subscript ob ib pb] k tpos] e X.env = pure none := by rfl)
    (h1 : (assignEach [.Tuple [.Subscript oa ia pa, .Subscript ob ib pb] k tpos] X.env).map (·.2) = [assign (.Tuple [.Subscript oa ia pa, .Subscript ob ib pb] k tpos) X.env] := by rfl)
    (hn : (assignEach [.Subscript oa ia pa, .Subscript ob ib pb] X.env).length = 2 := by rfl) (hst : (assignEach [.Subscript oa ia pa, .Subscript ob ib pb] X.env).findIdx? (·.1) = none := by rfl)
    (z1 : (assignEach [.Subscript oa ia pa, .Subscript ob ib pb] X.env).map (·.2) = assign (.Subscript oa ia pa) X.env :: (assignEach [.Subscript ob ib pb] X.env).map (·.2) := by rfl)
    (z2 : (assignEach [.Subscript ob ib pb] X.env).map (·.2) = assign (.Subscript ob ib pb) X.env :: (assignEach [] X.env).map (·.2) := by rfl)
    (ya : ∀ v, assign (.Subscript oa ia pa) X.env v = (do let ov ← holding [v] (eval oa X.env); let iv ← holding [v, ov] (eval ia X.env); standAt pa; holding [v, ov, iv] (setItem ov iv v); release [v, ov, iv] []) := by intro _; rfl)
    (yb : ∀ v, assign (.Subscript ob ib pb) X.env v = (do let ov ← holding [v] (eval ob X.env); let iv ← holding [v, ov] (eval ib X.env); standAt pb; holding [v, ov, iv] (setItem ov iv v); release [v, ov, iv] []) := by intro _; rfl) :
    PS X (.Assign [.Tuple [.Subscript oa ia pa, .Subscript ob ib pb] k tpos] e pos) (tS C W (sPut2 fv o1 i1 o2 i2)) :=
  (ps_asg he (pg_tup hc (pgs_cons (pg_sub ha hai (PSet.or set_list (set_dict hu)) ya) (pgs_cons (pg_sub hb hbi (PSet.or set_list (set_dict hu)) yb) pgs_nil z2) z1) hn hst) hs hw h1).by fun D σ H ⟨M, Γ, S, g, s, h⟩ => run1S g s h fun M1 v S1 z H1 l1 s1 r1 h1 => by
    split at h1
    · rename_i a b
      obtain ⟨p, ws, rfl, q1, q2⟩ := tup_of s1 r1 rfl
      obtain ⟨x, us, rfl, ra, q3⟩ := q2.cons_inv
      obtain ⟨y, us2, rfl, rb, q4⟩ := q3.cons_inv
      cases q4.nil_inv
      refine ⟨p, [x, y], rfl, hK ▸ q1, rfl, x, [y], rfl, ?_⟩
      refine run1S (g.mono l1) s1 h1 fun M2 o S2 xo H2 l2 s2 r2 h2 => run1S (g.mono (l1.trans l2)) s2 h2 fun M3 i S3 xi H3 l3 s3 r3 h3 => ?_
      split at h3
      · rename_i S4 e4
        have l12 := l1.trans l2
        have l13 := l12.trans l3
        refine put_of s3 (r2.mono l3) r3 (ra.mono (l2.trans l3)) e4 fun H4 s4 => ⟨y, [], rfl, ?_⟩
        refine run1S (g.mono l13) s4 h3 fun M5 o' S5 xo' H5 l5 s5 r5 h5 => run1S (g.mono (l13.trans l5)) s5 h5 fun M6 i' S6 xi' H6 l6 s6 r6 h6 => ?_
        split at h6
        · rename_i S7 e7
          refine put_of s6 (r5.mono l6) r6 (rb.mono ((l2.trans l3).trans (l5.trans l6))) e7 fun H7 s7 => ⟨rfl, ?_⟩
          exact h6.nxt (g.mono (l13.trans (l5.trans l6))) s7
        · exact h6.elim
      · exact h3.elim
    · exact h1.elim
end
end Pd
namespace Pd
open L2 PySem PySem.Spec PyProof.Rows
/-- one of two readings, by what lies there -/
def dAlt (p : Ga → Sto → Bool) (fa fb : DE) : DE := fun Γ S => match p Γ S with
  | true => fa Γ S
  | false => fb Γ S
def isC (c : Nat) (fo : DE) : Ga → Sto → Bool := fun Γ S => match fo Γ S with
  | .ok d S1 => (match insV S1 d with
    | some (c', _) => Nat.beq c' c
    | none => false)
  | _ => false
theorem xalt {X : Cx} {C : Cfg} {W : XK} {e : Expr} {fa fb : DE} (p : Ga → Sto → Bool) (ha : PE X e (tE C W fa)) (hb : PE X e (tE C W fb)) : PE X e (tE C W (dAlt p fa fb)) :=
  ⟨fun pins s σ H Q I ⟨M, Γ, S, g, sm, q⟩ => by
    unfold dAlt at q
    cases e : p Γ S with
    | true => rw [e] at q; exact ha.run pins s σ H Q I ⟨M, Γ, S, g, sm, q⟩
    | false => rw [e] at q; exact hb.run pins s σ H Q I ⟨M, Γ, S, g, sm, q⟩⟩
end Pd
namespace Pd
open L2 PySem PySem.Spec PyProof.Rows
/-- list + list, the new one is to change later -/
def fAddM : D → D → Sto → Res D := fun a b S => match lstX S a, lstX S b with
  | some xs, some ys => guard (lineOk (xs.length + ys.length)) (.ok (.ref S.nx) (S.new (.lst (xs ++ ys))))
  | _, _ => .bad
theorem oAddM {X : Cx} {C : Cfg} {W : XK} : OpD X C W (binaryOp .Add) fAddM := by
  refine ⟨_, op_cat, fun M S H a b x y Q s ra rb q => ?_⟩
  unfold fAddM at q
  split at q
  · rename_i xs ys e1 e2
    obtain ⟨l, vs, rfl, h1, r1⟩ := lstX_of s ra e1
    obtain ⟨m, ws, rfl, h2, r2⟩ := lstX_of s rb e2
    obtain ⟨g, q⟩ := guard_ok q
    refine ⟨l, m, vs, ws, rfl, rfl, h1, h2, ?_, fun p hp => newSto q s ⟨_, rfl, r1.append r2⟩ hp⟩
    rw [← r1.1, ← r2.1]; exact lineOk_ok g
  · exact q.elim
end Pd

/-! a list or dict is frozen with what lies in it -/
namespace Pd
open L2 PySem PySem.Spec PyProof.Rows

def frzL : List D → Sto → Option (List D × Sto)
  | [], S => some ([], S)
  | d :: r, S => (match frz d S with
    | .ok d' S1 => (match frzL r S1 with
      | some (r', S2) => some (d' :: r', S2)
      | none => none)
    | _ => none)
def zipKd : List (Key × D) → List D → List (Key × D)
  | (k, _) :: r, d :: ds => (k, d) :: zipKd r ds
  | _, _ => []
def frz2 : D → Sto → Res D := fun d S => match d with
  | .ref n => (match S.at n with
    | some (.lst ds) => (match frzL ds S with
      | some (ds', S1) => frz (.ref n) (S1.set n (.lst ds'))
      | none => .bad)
    | some (.dct kvs) => (match frzL (kvs.map (·.2)) S with
      | some (ds', S1) => frz (.ref n) (S1.set n (.dct (zipKd kvs ds')))
      | none => .bad)
    | _ => frz d S)
  | d => .ok d S
section
variable {C : Cfg} {M : Wd} {S : Sto} {H : Hp} {W : XK}
theorem Sim.reput (s : Sim C M S H) {n : Nat} {a : Addr} {m m' : MO} {o : HO} (hm : S.at n = some m) (ha : M.mu n = some a) (ho : H a = some o) (nf : ∀ ob u, o ≠ .frz ob u) (r : RepM C M m' o) : Sim C M (S.set n m') H := by
  have q := s.write0 hm ha r (s.nolk fun ob u z => by rw [ho] at z; cases z; exact nf _ _ rfl)
  have e : upd H a o = H := by
    funext b
    unfold upd
    split
    · rename_i hb; rw [hb, ho]
    · rfl
  rw [e] at q
  exact q
theorem frzL_step : ∀ {ds ds' : List D} {vs : List V} {M : Wd} {S S2 : Sto}, Sim C M S H → RepL C M ds vs → frzL ds S = some (ds', S2) → ∃ M2, M.le M2 ∧ Sim C M2 S2 H ∧ RepL C M2 ds' vs
  | [], ds', vs, M, S, S2, s, r, q => by
    cases q
    exact ⟨M, .refl M, s, r⟩
  | d :: ds, ds', vs, M, S, S2, s, r, q => by
    unfold frzL at q
    split at q
    · rename_i d' S1 e1
      split at q
      · rename_i r' S3 e2
        cases q
        obtain ⟨v, us, rfl, h1, h2⟩ := r.cons_inv
        obtain ⟨M1, l1, s1, r1⟩ := frz_step s h1 e1
        obtain ⟨M2, l2, s2, r2⟩ := frzL_step s1 (h2.mono l1) e2
        exact ⟨M2, l1.trans l2, s2, .cons (r1.mono l2) r2⟩
      · cases q
    · cases q
theorem zipKd_rep {M M2 : Wd} : ∀ {kds : List (Key × D)} {kvs : List (Key × V)} {ds : List D}, RepG C M kds kvs → RepL C M2 ds (kvs.map (·.2)) → RepG C M2 (zipKd kds ds) kvs
  | [], kvs, ds, r, q => by
    rw [r.nil_inv] at q ⊢
    exact .nil
  | (k, d) :: kds, kvs, ds, r, q => by
    obtain ⟨v, rs, rfl, h1, h2⟩ := r.cons_inv
    cases ds with
    | nil => exact absurd q.1 (by simp)
    | cons e ds =>
      obtain ⟨u, us, eu, q1, q2⟩ := q.cons_inv
      simp only [List.map_cons, List.cons.injEq] at eu
      obtain ⟨rfl, rfl⟩ := eu
      exact .cons q1 (zipKd_rep h2 q2)
theorem RepG.vals {M : Wd} : ∀ {kds : List (Key × D)} {kvs : List (Key × V)}, RepG C M kds kvs → RepL C M (kds.map (·.2)) (kvs.map (·.2))
  | [], kvs, r => by rw [r.nil_inv]; exact .nil
  | (k, d) :: kds, kvs, r => by
    obtain ⟨v, rs, rfl, h1, h2⟩ := r.cons_inv
    exact .cons h1 h2.vals
theorem set_gone {n : Nat} {m : MO} (h : S.at n = none) : (S.set n m).at n = none := by
  have : ∀ l : List (Nat × MO), look l n = none → look (put l n m) n = none := fun l => by
    induction l with
    | nil => exact fun _ => rfl
    | cons q r ih =>
      obtain ⟨k, q⟩ := q
      intro h
      unfold look at h
      unfold put
      cases e : Nat.beq k n with
      | true => rw [e] at h; cases h
      | false => rw [e] at h; show look ((k, q) :: put r n m) n = none; unfold look; rw [e]; exact ih h
  exact this S.ob h
theorem frz_gone {n : Nat} (h : S.at n = none) : frz (.ref n) S = .bad := by
  unfold frz; dsimp only; rw [h]
theorem frz2_step {d d' : D} {S2 : Sto} {v : V} (s : Sim C M S H) (r : Rep C M d v) (q : frz2 d S = .ok d' S2) : ∃ M2, M.le M2 ∧ Sim C M2 S2 H ∧ Rep C M2 d' v := by
  unfold frz2 at q
  split at q
  · rename_i n
    split at q
    · rename_i ds e
      split at q
      · rename_i ds' S1 el
        cases r
        rename_i a hm
        obtain ⟨b, o, h1, h2, h3, vs, rfl, rl⟩ := s.al n _ e
        rw [hm] at h1; cases h1
        obtain ⟨M1, l1, s1, r1⟩ := frzL_step s rl el
        cases en : S1.at n with
        | none => rw [frz_gone (set_gone en)] at q; cases q
        | some m =>
          have s2 := s1.reput en (l1.2.1 _ _ hm) h2 (fun _ _ z => nomatch z) (m' := .lst ds') ⟨vs, rfl, r1⟩
          obtain ⟨M2, l2, s3, r3⟩ := frz_step s2 (.ref (l1.2.1 _ _ hm)) q
          exact ⟨M2, l1.trans l2, s3, r3⟩
      · cases q
    · rename_i kvs e
      split at q
      · rename_i ds' S1 el
        cases r
        rename_i a hm
        obtain ⟨b, o, h1, h2, h3, vs, rfl, rl⟩ := s.al n _ e
        rw [hm] at h1; cases h1
        obtain ⟨M1, l1, s1, r1⟩ := frzL_step s (RepG.vals rl) el
        cases en : S1.at n with
        | none => rw [frz_gone (set_gone en)] at q; cases q
        | some m =>
          have s2 := s1.reput en (l1.2.1 _ _ hm) h2 (fun _ _ z => nomatch z) (m' := .dct (zipKd kvs ds')) ⟨vs, rfl, zipKd_rep rl r1⟩
          obtain ⟨M2, l2, s3, r3⟩ := frz_step s2 (.ref (l1.2.1 _ _ hm)) q
          exact ⟨M2, l1.trans l2, s3, r3⟩
      · cases q
    · exact frz_step s r q
  · cases q
    exact ⟨M, .refl M, s, r⟩
def sFrz2 (f : DS) (i : Nat) : DS := fun Γ S => match f Γ S with
  | .nx Γ1 S1 => (match Γ1[i]? with
    | some (some d) => (match frz2 d S1 with
      | .ok d' S2 => .nx (Γ1.set i (some d')) S2
      | _ => .bad)
    | _ => .bad)
  | r => r
theorem yfrz2 {X : Cx} {st : Stmt} {f : DS} (i : Nat) (h : PS X st (tS C W f)) : PS X st (tS C W (sFrz2 f i)) := h.by fun D σ H ⟨M, Γ, S, g, s, q⟩ => by
  refine ⟨M, Γ, S, g, s, ?_⟩
  unfold sFrz2 at q
  cases e : f Γ S with
  | nx Γ1 S1 =>
    rw [e] at q
    dsimp only at q
    intro M' σ' H' l g' s'
    split at q
    · rename_i d ed
      split at q
      · rename_i d' S2 ef
        obtain ⟨v, ev, rv⟩ := g'.2 i d ed
        obtain ⟨M2, l2, s2, r2⟩ := frz2_step s' rv ef
        exact q M2 σ' H' (l.trans l2) ((g'.mono l2).put ed ev r2) s2
      · exact q.elim
    · exact q.elim
  | rt d S1 => rw [e] at q; exact q
  | bk Γ1 S1 => rw [e] at q; exact q
  | ct Γ1 S1 => rw [e] at q; exact q
  | exc c fs S1 => rw [e] at q; exact q
  | bad => rw [e] at q; exact q
end
end Pd
namespace Pd
open L2 PySem PySem.Spec PyProof.Rows
/-- t + u for tuples, u empty or not -/
def isE (_ b : D) (_ : Sto) : Bool := match tupV b with
  | some [] => true
  | _ => false
def fCatQ : D → D → Sto → Res D := fun a b S => match isE a b S with
  | true => fAdd a b S
  | false => fCatP a b S
theorem oCatQ {X : Cx} {C : Cfg} {W : XK} (hK : X.K = C.K) : OpD X C W (binaryOp .Add) fCatQ := OpD.or (oAdd hK) (oCatP hK) isE
end Pd

/-! a law's own def: what is dead is forgotten, what lives is numbered anew -/
namespace Pd
open L2 PySem PySem.Spec PyProof.Rows

/-- the place of a number in a list -/
def ixR : List Nat → Nat → Nat → Option Nat
  | [], _, _ => none
  | a :: r, k, n => match Nat.beq a n with
    | true => some k
    | false => ixR r (k + 1) n
theorem ixR_at : ∀ {l : List Nat} {k n j : Nat}, ixR l k n = some j → k ≤ j ∧ l[j - k]? = some n
  | [], _, _, _, h => nomatch h
  | a :: r, k, n, j, h => by
    unfold ixR at h
    cases e : Nat.beq a n with
    | true =>
      rw [e] at h
      have h : some k = some j := h
      cases h
      have := Nat.eq_of_beq_eq_true e
      subst this
      exact ⟨Nat.le_refl _, by rw [Nat.sub_self]; rfl⟩
    | false =>
      rw [e] at h
      obtain ⟨h1, h2⟩ := ixR_at (l := r) (k := k + 1) h
      refine ⟨by omega, ?_⟩
      rw [show j - k = (j - (k + 1)) + 1 by omega]
      exact h2
def nodB : List Nat → Bool
  | [] => true
  | a :: r => match ixR r 0 a with
    | some _ => false
    | none => nodB r
theorem ixR_none : ∀ {l : List Nat} {k n : Nat}, ixR l k n = none → n ∉ l
  | [], _, _, _, h => nomatch h
  | a :: r, k, n, e, h => by
    unfold ixR at e
    cases q : Nat.beq a n with
    | true => rw [q] at e; exact nomatch e
    | false =>
      rw [q] at e
      rcases (List.mem_cons.mp h) with rfl | h
      · rw [Nat.beq_refl] at q; cases q
      · exact ixR_none (l := r) (k := k + 1) e h
theorem nodB_ok : ∀ {l : List Nat}, nodB l = true → l.Nodup
  | [], _ => List.nodup_nil
  | a :: r, h => by
    unfold nodB at h
    cases e : ixR r 0 a with
    | some _ => rw [e] at h; exact nomatch h
    | none => rw [e] at h; exact List.nodup_cons.mpr ⟨ixR_none e, nodB_ok (l := r) h⟩
theorem nodup_at {l : List Nat} (h : l.Nodup) {i j n : Nat} (a : l[i]? = some n) (b : l[j]? = some n) : i = j := by
  obtain ⟨hi, ai⟩ := List.getElem?_eq_some_iff.mp a
  obtain ⟨hj, bj⟩ := List.getElem?_eq_some_iff.mp b
  exact (List.getElem_inj h).mp (ai.trans bj.symm)
/-- a value by the new numbers -/
def renD (ρ : List Nat) (d : D) : Option D := match d with
  | .ref n => (match ixR ρ 0 n with
    | some k => some (.ref k)
    | none => none)
  | d => (match noR d with
    | true => some d
    | false => none)
def renK {α : Type} (ρ : List Nat) : List (α × D) → Option (List (α × D))
  | [] => some []
  | (k, d) :: r => (match renD ρ d with
    | some e => (match renK ρ r with
      | some s => some ((k, e) :: s)
      | none => none)
    | none => none)
def renM (ρ : List Nat) : MO → Option MO
  | .lst ds => (match mapO (renD ρ) ds with
    | some es => some (.lst es)
    | none => none)
  | .dct ds => (match renK ρ ds with
    | some es => some (.dct es)
    | none => none)
  | .dtt ds => (match renK ρ ds with
    | some es => some (.dtt es)
    | none => none)
  | .ins c ds => (match renK ρ ds with
    | some es => some (.ins c es)
    | none => none)
  | .lck _ => none
def gcO (ρ : List Nat) (S : Sto) : Nat → List Nat → Option (List (Nat × MO))
  | _, [] => some []
  | k, n :: r => (match S.at n with
    | some m => (match renM ρ m with
      | some m' => (match gcO ρ S (k + 1) r with
        | some l => some ((k, m') :: l)
        | none => none)
      | none => none)
    | none => none)
def gcS (ρ : List Nat) (S : Sto) : Option Sto := match nodB ρ with
  | true => (match gcO ρ S 0 ρ with
    | some l => some ⟨ρ.length, l⟩
    | none => none)
  | false => none
def gcV (ρ : List Nat) : Option D → Option D
  | some d => renD ρ d
  | none => none
def gcG (ρ : List Nat) : Ga → Ga
  | [] => []
  | a :: r => gcV ρ a :: gcG ρ r
def gcX (ρ : List Nat) (Γ : Ga) (S : Sto) : SRes := match gcS ρ S with
  | some S2 => .nx (gcG ρ Γ) S2
  | none => .bad
def gcW (ρ : List Nat) (M : Wd) : Wd := ⟨M.fz, fun i => match ρ[i]? with
  | some n => M.mu n
  | none => none, M.lk, M.kp⟩
section
variable {C : Cfg} {M : Wd} {S : Sto} {H : Hp} {ρ : List Nat}
theorem gcW_mu {i n : Nat} (h : ρ[i]? = some n) : (gcW ρ M).mu i = M.mu n := by
  show (match ρ[i]? with
    | some n => M.mu n
    | none => none) = _
  rw [h]
theorem Rep.ren {d d' : D} {v : V} (r : Rep C M d v) (h : renD ρ d = some d') : Rep C (gcW ρ M) d' v := by
  have go : ∀ {e : D}, Rep C M e v → (match noR e with
      | true => some e
      | false => none) = some d' → Rep C (gcW ρ M) d' v := fun {e} r h => by
    cases n : noR e with
    | true =>
      rw [n] at h
      have h : some e = some d' := h
      cases h
      exact Rep.frzOnly (M := M) (M' := gcW ρ M) (fun _ _ h => h) r n
    | false => rw [n] at h; exact nomatch h
  unfold renD at h
  split at h
  · rename_i n
    split at h
    · rename_i k e
      cases h
      cases r
      rename_i a hm
      have q := (ixR_at e).2
      rw [Nat.sub_zero] at q
      exact .ref ((gcW_mu q).trans hm)
    · cases h
  · exact go r h
theorem RepL.ren : ∀ {ds es : List D} {vs : List V}, RepL C M ds vs → mapO (renD ρ) ds = some es → RepL C (gcW ρ M) es vs
  | [], es, vs, r, h => by cases h; rw [r.nil_inv]; exact .nil
  | d :: ds, es, vs, r, h => by
    obtain ⟨v, us, rfl, h1, h2⟩ := r.cons_inv
    unfold mapO at h
    split at h
    · rename_i b e1
      split at h
      · rename_i s e2
        cases h
        exact .cons (h1.ren e1) (RepL.ren h2 e2)
      · cases h
    · cases h
theorem renK_at {α : Type} : ∀ {ds es : List (α × D)}, renK ρ ds = some es → es.map (·.1) = ds.map (·.1) ∧ ∀ (i : Nat) k e, es[i]? = some (k, e) → ∃ d, ds[i]? = some (k, d) ∧ renD ρ d = some e
  | [], es, h => by cases h; exact ⟨rfl, fun i k e q => by simp at q⟩
  | (k, d) :: r, es, h => by
    unfold renK at h
    split at h
    · rename_i e e1
      split at h
      · rename_i s e2
        cases h
        obtain ⟨h1, h2⟩ := renK_at e2
        refine ⟨by rw [List.map_cons, List.map_cons, h1], fun i k' e' q => ?_⟩
        cases i with
        | zero => simp at q; obtain ⟨rfl, rfl⟩ := q; exact ⟨d, rfl, e1⟩
        | succ i => exact h2 i k' e' (by simpa using q)
      · cases h
    · cases h
theorem RepM.ren {m m' : MO} {o : HO} (r : RepM C M m o) (h : renM ρ m = some m') : RepM C (gcW ρ M) m' o := by
  cases m with
  | lst ds =>
    obtain ⟨vs, rfl, r⟩ := r
    have h : (match mapO (renD ρ) ds with
      | some es => some (MO.lst es)
      | none => none) = some m' := h
    split at h
    · rename_i es e; cases h; exact ⟨vs, rfl, r.ren e⟩
    · cases h
  | dct ds =>
    obtain ⟨vs, rfl, r⟩ := r
    have h : (match renK ρ ds with
      | some es => some (MO.dct es)
      | none => none) = some m' := h
    split at h
    · rename_i es e
      cases h
      obtain ⟨h1, h2⟩ := renK_at e
      exact ⟨vs, rfl, by rw [h1]; exact r.1, fun i k e k' v a b => let ⟨d, q1, q2⟩ := h2 i k e a; (r.2 i k d k' v q1 b).ren q2⟩
    · cases h
  | dtt ds =>
    obtain ⟨vs, rfl, r⟩ := r
    have h : (match renK ρ ds with
      | some es => some (MO.dtt es)
      | none => none) = some m' := h
    split at h
    · rename_i es e
      cases h
      obtain ⟨h1, h2⟩ := renK_at e
      exact ⟨vs, rfl, by rw [h1]; exact r.1, fun i k e k' v a b => let ⟨d, q1, q2⟩ := h2 i k e a; (r.2 i k d k' v q1 b).ren q2⟩
    · cases h
  | ins c ds =>
    obtain ⟨dx, fv, rfl, r⟩ := r
    have h : (match renK ρ ds with
      | some es => some (MO.ins c es)
      | none => none) = some m' := h
    split at h
    · rename_i es e
      cases h
      obtain ⟨h1, h2⟩ := renK_at e
      refine ⟨dx, fv, rfl, ?_, fun i k e k' v a b => let ⟨d, q1, q2⟩ := h2 i k e a; (r.2 i k d k' v q1 b).ren q2⟩
      rw [← r.1, show (fun p : Nat × D => C.an[p.1]?) = (fun k : Nat => C.an[k]?) ∘ (·.1) from rfl, ← List.map_map, ← List.map_map, h1]
    · cases h
  | lck m => cases h
theorem gcO_at : ∀ {l : List Nat} {k : Nat} {L : List (Nat × MO)}, gcO ρ S k l = some L → ∀ i m', look L i = some m' → ∃ n m, k ≤ i ∧ l[i - k]? = some n ∧ S.at n = some m ∧ renM ρ m = some m'
  | [], k, L, h, i, m', q => by cases h; exact nomatch q
  | n :: r, k, L, h, i, m', q => by
    unfold gcO at h
    split at h
    · rename_i m em
      split at h
      · rename_i m1 e1
        split at h
        · rename_i l el
          cases h
          unfold look at q
          cases e : Nat.beq k i with
          | true =>
            rw [e] at q
            have q : some m1 = some m' := q
            cases q
            have := Nat.eq_of_beq_eq_true e
            subst this
            exact ⟨n, m, Nat.le_refl _, by rw [Nat.sub_self]; rfl, em, e1⟩
          | false =>
            rw [e] at q
            obtain ⟨n', m2, h1, h2, h3, h4⟩ := gcO_at el i m' q
            exact ⟨n', m2, by omega, by rw [show i - k = (i - (k + 1)) + 1 by omega]; exact h2, h3, h4⟩
        · cases h
      · cases h
    · cases h
theorem Sim.gc (s : Sim C M S H) {S2 : Sto} (h : gcS ρ S = some S2) : Sim C (gcW ρ M) S2 H := by
  unfold gcS at h
  split at h
  · rename_i hn
    split at h
    · rename_i L el
      cases h
      have at2 : ∀ i m', (⟨ρ.length, L⟩ : Sto).at i = some m' → ∃ n m, ρ[i]? = some n ∧ S.at n = some m ∧ renM ρ m = some m' := fun i m' q => by
        obtain ⟨n, m, _, h2, h3, h4⟩ := gcO_at el i m' q
        exact ⟨n, m, by rw [Nat.sub_zero] at h2; exact h2, h3, h4⟩
      refine ⟨s.fr, fun i m' e => ?_, fun i i' b e e' q q' => ?_, fun i a e => ?_, s.lk, fun a o e => ?_⟩
      · obtain ⟨n, m, h1, h2, h3⟩ := at2 i m' e
        obtain ⟨a, o, q1, q2, q3, q4⟩ := s.al n m h2
        exact ⟨a, o, (gcW_mu h1).trans q1, q2, q3, q4.ren h3⟩
      · obtain ⟨m1, em⟩ := Option.isSome_iff_exists.mp e
        obtain ⟨m2, em'⟩ := Option.isSome_iff_exists.mp e'
        obtain ⟨n, m, h1, h2, h3⟩ := at2 i m1 em
        obtain ⟨n', m', h1', h2', h3'⟩ := at2 i' m2 em'
        rw [gcW_mu h1] at q
        rw [gcW_mu h1'] at q'
        have := s.inj n n' b (by rw [h2]; rfl) (by rw [h2']; rfl) q q'
        subst this
        exact nodup_at (nodB_ok hn) h1 h1'
      · have e : (match ρ[i]? with
          | some n => M.mu n
          | none => none) = some a := e
        show i < ρ.length
        cases q : ρ[i]? with
        | none => rw [q] at e; cases e
        | some n => exact (List.getElem?_eq_some_iff.mp q).1
      · obtain ⟨k1, k2, k3, k4⟩ := s.kp a o e
        refine ⟨k1, k2, k3, fun i hi => ?_⟩
        obtain ⟨m1, em⟩ := Option.isSome_iff_exists.mp hi
        obtain ⟨n, m, h1, h2, h3⟩ := at2 i m1 em
        rw [gcW_mu h1]
        exact k4 n (by rw [h2]; rfl)
    · cases h
  · cases h
theorem SimG.gc : ∀ {Γ : Ga} {σ : L2.St}, SimG C M Γ σ → SimG C (gcW ρ M) (gcG ρ Γ) σ := fun {Γ σ} g => by
  have len : ∀ Γ : Ga, (gcG ρ Γ).length = Γ.length := fun Γ => by
    induction Γ with
    | nil => rfl
    | cons a r ih => show (gcG ρ r).length + 1 = _; rw [ih]; rfl
  have get : ∀ (Γ : Ga) (i : Nat) (d' : D), (gcG ρ Γ)[i]? = some (some d') → ∃ d, Γ[i]? = some (some d) ∧ renD ρ d = some d' := fun Γ => by
    induction Γ with
    | nil => exact fun i d' e => by cases e
    | cons a r ih =>
      intro i d' e
      cases a with
      | none =>
        cases i with
        | zero => cases e
        | succ i => exact ih i d' e
      | some d =>
        cases i with
        | zero => exact ⟨d, rfl, Option.some.inj e⟩
        | succ i => exact ih i d' e
  refine ⟨(len Γ).trans g.1, fun i d' e => ?_⟩
  obtain ⟨d, h1, h2⟩ := get Γ i d' e
  obtain ⟨v, h3, h4⟩ := g.2 i d h1
  exact ⟨v, h3, h4.ren h2⟩
end
/-! ### the readings that don't look back -/
section
variable (C : Cfg)
def GoodE0 (r : Res D) (Q : VK) (E : XK) : Prop := match r with
  | .ok a S => ∀ M' v H', Sim C M' S H' → Rep C M' a v → Q v H'
  | .exc c fs S => ∀ M' cls dd H', Sim C M' S H' → RepX C M' H' cls dd c fs → E cls dd H'
  | .bad => False
def GoodS0 (W : XK) (r : SRes) (D : Ends) : Prop := match r with
  | .nx Γ S => ∀ M' σ' H', SimG C M' Γ σ' → Sim C M' S H' → D.nx σ' H'
  | .rt d S => ∀ M' v H', Sim C M' S H' → Rep C M' d v → D.rt v H'
  | .bk Γ S => ∀ M' σ' H', SimG C M' Γ σ' → Sim C M' S H' → D.bk σ' H'
  | .ct Γ S => ∀ M' σ' H', SimG C M' Γ σ' → Sim C M' S H' → D.ct σ' H'
  | .exc c fs S => ∀ M' cls dd H', Sim C M' S H' → RepX C M' H' cls dd c fs → W cls dd H'
  | .bad => False
def tS0 (W : XK) (f : DS) : TS := fun D σ H => ∃ M Γ S, SimG C M Γ σ ∧ Sim C M S H ∧ GoodS0 C W (f Γ S) D
def spD0 (n : Nat) (f : List D → Sto → Res D) : Sp := fun vs H Q E => ∃ M S ds, ds.length = n ∧ Sim C M S H ∧ RepL C M ds vs ∧ GoodE0 C (f ds S) Q E
end
section
variable {X : Cx} {C : Cfg} {W : XK} {f f' : DS} {st : Stmt} {rest : List Stmt} {E : Ends}
theorem GoodS0.weak {M : Wd} {r : SRes} (h : GoodS0 C W r E) : GoodS C (WS W) M r E := by
  cases r with
  | nx Γ S => exact fun M' σ' H' _ => h M' σ' H'
  | rt d S => exact fun M' v H' _ => h M' v H'
  | bk Γ S => exact fun M' σ' H' _ => h M' σ' H'
  | ct Γ S => exact fun M' σ' H' _ => h M' σ' H'
  | exc c fs S => exact fun M' σ' cls dd H' _ => h M' cls dd H'
  | bad => exact h
theorem ylift0 (h : PS X st (tS C W f)) : PS X st (tS0 C W f) := h.by fun D σ H ⟨M, Γ, S, g, s, q⟩ => ⟨M, Γ, S, g, s, q.weak⟩
/-- what is dead is forgotten behind a statement; live tells what lives -/
def sGC (live : Ga → Sto → List Nat) (f : DS) : DS := fun Γ S => match f Γ S with
  | .nx Γ1 S1 => gcX (live Γ1 S1) Γ1 S1
  | r => r
theorem ygc0 (live : Ga → Sto → List Nat) (h : PS X st (tS0 C W f)) : PS X st (tS0 C W (sGC live f)) := h.by fun D σ H ⟨M, Γ, S, g, s, q⟩ => by
  refine ⟨M, Γ, S, g, s, ?_⟩
  unfold sGC at q
  cases e : f Γ S with
  | nx Γ1 S1 =>
    rw [e] at q
    dsimp only at q
    unfold gcX at q
    split at q
    · rename_i S2 e2
      exact fun M' σ' H' g' s' => q _ σ' H' (g'.gc (ρ := live Γ1 S1)) (s'.gc e2)
    · exact q.elim
  | rt d S1 => rw [e] at q; exact q
  | bk Γ1 S1 => rw [e] at q; exact q
  | ct Γ1 S1 => rw [e] at q; exact q
  | exc c fs S1 => rw [e] at q; exact q
  | bad => rw [e] at q; exact q
theorem ynil0 : PSs X [] (tS0 C W sNil) := pss_nil.by fun D σ H ⟨M, Γ, S, g, s, h⟩ => h M σ H g s
theorem ycons0 (h1 : PS X st (tS0 C W f)) (h2 : PSs X rest (tS0 C W f')) : PSs X (st :: rest) (tS0 C W (sSeq f f')) := (pss_cons h1 h2).by fun D σ H ⟨M, Γ, S, g, s, h⟩ => by
  refine ⟨M, Γ, S, g, s, ?_⟩
  have h : GoodS0 C W ((f Γ S).then f') D := h
  cases e : f Γ S with
  | nx Γ1 S1 => rw [e] at h; exact fun M1 σ1 H1 g1 s1 => ⟨M1, Γ1, S1, g1, s1, h⟩
  | rt d S1 => rw [e] at h; exact h
  | bk Γ1 S1 => rw [e] at h; exact h
  | ct Γ1 S1 => rw [e] at h; exact h
  | exc c fs S1 => rw [e] at h; exact h
  | bad => rw [e] at h; exact h
theorem yone0 (h1 : PS X st (tS0 C W f)) : PSs X [st] (tS0 C W f) := pss_one h1
/-- something that is walked whatever is known of the heap -/
def ItD0 (X : Cx) (C : Cfg) (W : XK) (tg iter : Expr) (f : DA) : Prop :=
  ∃ wi : TI, PI X tg iter wi ∧ ∀ (M : Wd) (Γ : Ga) (S : Sto) (σ : L2.St) (H : Hp) (R : It → Hp → Prop), SimG C M Γ σ → Sim C M S H →
    (match f Γ S with
      | .ok ds S1 => ∀ M1 H1 J, SimG C M1 Γ σ → Sim C M1 S1 H1 → (∀ M0, Gives C M0 J ds) → R J H1
      | .exc c fs S1 => ∀ M' cls dd H', Sim C M' S1 H' → RepX C M' H' cls dd c fs → W cls dd H'
      | .bad => False) → wi σ H R
theorem wrng10 {a tg : Expr} {fr : DA} {p pos : Pos} (hg : Gl X "range") (hm : X.mg "range" = none) (ha : PA X [a] (tA C W fr)) (hs : starEach [a] X.env = [(false, eval a X.env)] := by rfl) : ItD0 X C W tg (.Call (.Name "range" p) [a] [] pos) (aBind fr rng1) := by
  refine ⟨_, pi_range1 hg hm ha hs, fun M Γ S σ H R g s h => ⟨M, Γ, S, g, s, ?_⟩⟩
  have h : (match (fr Γ S).bind rng1 with
      | .ok ds S1 => ∀ M1 H1 J, SimG C M1 Γ σ → Sim C M1 S1 H1 → (∀ M0, Gives C M0 J ds) → R J H1
      | .exc c fs S1 => ∀ M' cls dd H', Sim C M' S1 H' → RepX C M' H' cls dd c fs → W cls dd H'
      | .bad => False) := h
  cases e : fr Γ S with
  | bad => rw [e] at h; exact h
  | exc c fs S1 => rw [e] at h; exact fun M' cls dd H' _ => h M' cls dd H'
  | ok ds S1 =>
    rw [e] at h
    intro M1 vs H1 l1 s1 r1
    have h : (match rng1 ds S1 with
      | .ok ds S1 => ∀ M1 H1 J, SimG C M1 Γ σ → Sim C M1 S1 H1 → (∀ M0, Gives C M0 J ds) → R J H1
      | .exc c fs S1 => ∀ M' cls dd H', Sim C M' S1 H' → RepX C M' H' cls dd c fs → W cls dd H'
      | .bad => False) := h
    unfold rng1 at h
    split at h
    · rename_i o S2 e1
      split at e1
      · rename_i j
        split at e1
        · rename_i hj
          cases e1
          obtain ⟨v, us, rfl, q, t⟩ := r1.cons_inv
          rw [t.nil_inv]
          cases q
          obtain ⟨m1, m2⟩ := mid_ok hj
          exact ⟨j, rfl, m1, m2, h M1 H1 _ (g.mono l1) s1 fun _ => gives_range⟩
        · cases e1
      · cases e1
    · rename_i c fs S2 e1
      split at e1
      · split at e1 <;> cases e1
      · cases e1
    · exact h.elim
def sFor0 (fi : DA) (gt : D → Ga → Sto → Option Ga) (body : DS) : DS := fun Γ S => (fi Γ S).then fun ds S1 => loopD gt body ds Γ S1
theorem yfor0 {tg iter : Expr} {pos : Pos} {fi : DA} {body : List Stmt} {vs : List Nat} {fb : DS} {gt : D → Ga → Sto → Option Ga} (hp : PassesOwn (model X.prog X.w) X.A X.env X.xe) (hc : X.calm = true) (hi : ItD0 X C W tg iter fi) (hg : TgD X C tg vs gt) (hb : PSs X body (tS0 C W fb)) (hs : ∀ x, foldedSetIterable iter X.env x = pure x := by intro _; rfl) : PS X (.For tg iter body [] pos) (tS0 C W (sFor0 fi gt fb)) := by
  obtain ⟨wi, hwi, k⟩ := hi
  obtain ⟨t, ht, kt⟩ := hg
  refine (ps_for hp hc hwi ht hb hs).by fun E σ H ⟨M, Γ, S, g, s, h⟩ => ?_
  refine k M Γ S σ H _ g s ?_
  have h : GoodS0 C W ((fi Γ S).then fun ds S1 => loopD gt fb ds Γ S1) E := h
  cases e : fi Γ S with
  | bad => rw [e] at h; exact h
  | exc c fs S1 => rw [e] at h; exact fun M' cls dd H' s' r => h M' cls dd H' s' r
  | ok ds S1 =>
    rw [e] at h
    have h : GoodS0 C W (loopD gt fb ds Γ S1) E := h
    intro M1 H1 J g1 s1 gv
    refine ⟨fun i m σ H => ∃ M' Γ' S' r, SimG C M' Γ' σ ∧ Sim C M' S' H ∧ r = ds.drop i ∧ m = r.length ∧ i ≤ ds.length ∧ GoodS0 C W (loopD gt fb r Γ' S') E, ⟨_, M1, Γ, S1, ds, g1, s1, rfl, rfl, Nat.zero_le _, h⟩, ?_⟩
    rintro i m σ H ⟨M', Γ', S', r, g', s', er, em, hle, h'⟩
    obtain ⟨gs, gg⟩ := gv M' M' S' H (.refl M') s' i
    cases r with
    | nil =>
      have : ds.length ≤ i := by
        have := congrArg List.length er
        simp at this; omega
      exact .inl ⟨gs this, h' M' σ H g' s'⟩
    | cons d r =>
      have hd : ds[i]? = some d := by
        have h1 : (ds.drop i)[0]? = some d := by rw [← er]; rfl
        simpa using h1
      have hr : r = ds.drop (i + 1) := by
        rw [show ds.drop (i + 1) = (ds.drop i).drop 1 by rw [List.drop_drop], ← er]; rfl
      have hlt : i < ds.length := (List.getElem?_eq_some_iff.mp hd).1
      obtain ⟨go, yl⟩ := gg d hd
      refine .inr ⟨go, fun σ H => ∃ M2 Γ2 S2, SimG C M2 Γ2 σ ∧ Sim C M2 S2 H ∧ GoodS0 C W (loopD gt fb r Γ2 S2) E, fun σ' H' ⟨M2, Γ2, S2, b, c, q⟩ => ⟨r.length, by rw [em]; simp, M2, Γ2, S2, r, b, c, hr, rfl, hlt, q⟩, fun x H' y => ?_⟩
      obtain ⟨M2, l2, s2, rx⟩ := yl x H' y
      unfold loopD at h'
      cases eg : gt d Γ' S' with
      | none => rw [eg] at h'; exact h'.elim
      | some Γ1 =>
        rw [eg] at h'
        refine kt M2 S' Γ' Γ1 σ H' d x _ (g'.mono l2) s2 rx eg fun σ1 g1 _ => ⟨M2, Γ1, S', g1, s2, ?_⟩
        have h' : GoodS0 C W (match fb Γ1 S' with
          | .nx Γ2 S2 => loopD gt fb r Γ2 S2
          | .ct Γ2 S2 => loopD gt fb r Γ2 S2
          | .bk Γ2 S2 => .nx Γ2 S2
          | o => o) E := h'
        cases eb : fb Γ1 S' with
        | nx Γ3 S3 => rw [eb] at h'; exact fun M3 σ3 H3 g3 s3 => ⟨M3, Γ3, S3, g3, s3, h'⟩
        | ct Γ3 S3 => rw [eb] at h'; exact fun M3 σ3 H3 g3 s3 => ⟨M3, Γ3, S3, g3, s3, h'⟩
        | bk Γ3 S3 => rw [eb] at h'; exact h'
        | rt d S3 => rw [eb] at h'; exact h'
        | exc c fs S3 => rw [eb] at h'; exact h'
        | bad => rw [eb] at h'; exact h'
end
section
variable {P : Program} {w : World} {K : PySem.W.Frag} {mg : Str → Option Value} {base : Heap} {C : Cfg} {x qual : Str} {params : Arguments} {body : List Stmt} {scope : Scope} {f : Addr} {fd : FuncData}
theorem okfn0 {N ps : List Str} {k : Nat} {fb : DS} (F : FunD K x qual params body scope [] [] f fd) (S : FnScope N ps scope) (hle : Nat.ble ps.length N.length = true)
    (hbody : ∀ (cdv : Value) (A : Around) (outer : List Env) (s : Shared) (H : Hp) (E : XK), Room k (A.deeper (envOfC qual scope s.heap.objs.size f cdv)) → PSs (cxOf CX0 P w K mg base N qual scope f cdv A outer s H E) body (tS0 C E fb)) :
    FnOk P w K mg base CX0 (k + 1) f fd ps (spD0 C ps.length (dFun N.length fb)) := by
  refine F.ok S (fun vs H Q E h => ?_) (fun cdv A outer s H vs Q E hr h => ⟨tS0 C E fb, hbody cdv A outer s H E hr, ?_⟩)
  · obtain ⟨M, S0, ds, hl, _, r, _⟩ := h
    rw [← r.1, hl]
  · obtain ⟨M, S0, ds, hl, sm, r, g⟩ := h
    refine ⟨M, startG N.length ds, S0, startG_rep (by rw [hl]; exact len_ok hle) r, sm, ?_⟩
    have g : GoodE0 C (endD (fb (startG N.length ds) S0)) Q E := g
    cases e : fb (startG N.length ds) S0 with
    | nx Γ S' => rw [e] at g; exact fun M' σ' H' _ s => g M' .non H' s .non
    | rt d S' => rw [e] at g; exact g
    | bk Γ S' => rw [e] at g; exact g.elim
    | ct Γ S' => rw [e] at g; exact g.elim
    | exc c fs S' => rw [e] at g; exact g
    | bad => rw [e] at g; exact g.elim
end
end Pd

/-! an instance is frozen with what its attributes hold -/
namespace Pd
open L2 PySem PySem.Spec PyProof.Rows
def frzF : List (Nat × D) → Sto → Option (List (Nat × D) × Sto)
  | [], S => some ([], S)
  | (k, d) :: r, S => (match frz2 d S with
    | .ok d' S1 => (match frzF r S1 with
      | some (r', S2) => some ((k, d') :: r', S2)
      | none => none)
    | _ => none)
def frz3 : D → Sto → Res D := fun d S => match d with
  | .ref n => (match S.at n with
    | some (.ins c fs) => (match frzF fs S with
      | some (fs', S1) => frz (.ref n) (S1.set n (.ins c fs'))
      | none => .bad)
    | _ => frz2 d S)
  | d => .ok d S
section
variable {C : Cfg} {M : Wd} {S : Sto} {H : Hp} {W : XK}
theorem frzF_step : ∀ {ds ds' : List (Nat × D)} {vs : List (Str × V)} {M : Wd} {S S2 : Sto}, Sim C M S H → RepF C M ds vs → frzF ds S = some (ds', S2) → ∃ M2, M.le M2 ∧ Sim C M2 S2 H ∧ RepF C M2 ds' vs
  | [], ds', vs, M, S, S2, s, r, q => by
    cases q
    exact ⟨M, .refl M, s, r⟩
  | (k, d) :: ds, ds', vs, M, S, S2, s, r, q => by
    unfold frzF at q
    split at q
    · rename_i d' S1 e1
      split at q
      · rename_i r' S3 e2
        cases q
        obtain ⟨nm, v, us, rfl, hk, h1, h2⟩ := r.cons_inv
        obtain ⟨M1, l1, s1, r1⟩ := frz2_step s h1 e1
        obtain ⟨M2, l2, s2, r2⟩ := frzF_step s1 (h2.mono l1) e2
        exact ⟨M2, l1.trans l2, s2, .cons hk (r1.mono l2) r2⟩
      · cases q
    · cases q
theorem frz3_step {d d' : D} {S2 : Sto} {v : V} (s : Sim C M S H) (r : Rep C M d v) (q : frz3 d S = .ok d' S2) : ∃ M2, M.le M2 ∧ Sim C M2 S2 H ∧ Rep C M2 d' v := by
  unfold frz3 at q
  split at q
  · rename_i n
    split at q
    · rename_i c fs e
      split at q
      · rename_i fs' S1 el
        cases r
        rename_i a hm
        obtain ⟨b, o, h1, h2, h3, dx, fv, rfl, rl⟩ := s.al n _ e
        rw [hm] at h1; cases h1
        obtain ⟨M1, l1, s1, r1⟩ := frzF_step s rl el
        cases en : S1.at n with
        | none => rw [frz_gone (set_gone en)] at q; cases q
        | some m =>
          have s2 := s1.reput en (l1.2.1 _ _ hm) h2 (fun _ _ z => nomatch z) (m' := .ins c fs') ⟨dx, fv, rfl, r1⟩
          obtain ⟨M2, l2, s3, r3⟩ := frz_step s2 (.ref (l1.2.1 _ _ hm)) q
          exact ⟨M2, l1.trans l2, s3, r3⟩
      · cases q
    · exact frz2_step s r q
  · cases q
    exact ⟨M, .refl M, s, r⟩
def sFrz3 (f : DS) (i : Nat) : DS := fun Γ S => match f Γ S with
  | .nx Γ1 S1 => (match Γ1[i]? with
    | some (some d) => (match frz3 d S1 with
      | .ok d' S2 => .nx (Γ1.set i (some d')) S2
      | _ => .bad)
    | _ => .bad)
  | r => r
theorem yfrz3 {X : Cx} {st : Stmt} {f : DS} (i : Nat) (h : PS X st (tS C W f)) : PS X st (tS C W (sFrz3 f i)) := h.by fun D σ H ⟨M, Γ, S, g, s, q⟩ => by
  refine ⟨M, Γ, S, g, s, ?_⟩
  unfold sFrz3 at q
  cases e : f Γ S with
  | nx Γ1 S1 =>
    rw [e] at q
    dsimp only at q
    intro M' σ' H' l g' s'
    split at q
    · rename_i d ed
      split at q
      · rename_i d' S2 ef
        obtain ⟨v, ev, rv⟩ := g'.2 i d ed
        obtain ⟨M2, l2, s2, r2⟩ := frz3_step s' rv ef
        exact q M2 σ' H' (l.trans l2) ((g'.mono l2).put ed ev r2) s2
      · exact q.elim
    · exact q.elim
  | rt d S1 => rw [e] at q; exact q
  | bk Γ1 S1 => rw [e] at q; exact q
  | ct Γ1 S1 => rw [e] at q; exact q
  | exc c fs S1 => rw [e] at q; exact q
  | bad => rw [e] at q; exact q
end
end Pd

/-! own exceptions as values: made (over ValueError, over LookupError), asked by isinstance, their attributes -/
namespace Pd
open L2 PySem PySem.Spec PyProof.Rows
def xTail : Bool → List Value
  | true => [.type "ValueError", .type "Exception", .type "BaseException", .type "object"]
  | false => [.type "LookupError", .type "Exception", .type "BaseException", .type "object"]
def xBase : Bool → String
  | true => "ValueError"
  | false => "LookupError"
def xNew : Bool → String
  | true => "ValueError.__new__"
  | false => "LookupError.__new__"
def xInit : Bool → String
  | true => "ValueError.__init__"
  | false => "LookupError.__init__"
theorem xFB : ∀ v, ExcBaseFacts (xBase v) (xNew v) (xInit v) (xTail v)
  | true => PySem.F.excBase_ValueError
  | false => PySem.F.excBase_LookupError
theorem xSF : ∀ v, StoreFacts (xBase v) (xTail v) "object.__setattr__" "object"
  | true => PySem.F.store_ValueError
  | false => PySem.F.store_LookupError
/-- what the written part says of such a class -/
structure XeC (K : PySem.W.Frag) (c : Addr) (v : Bool) : Prop where
  kC : PySem.W.keepIn K (.ref c) = true
  sa : PySem.W.findIn K (.ref c) "__setattr__" = some (some (.builtin "object.__setattr__"))
  ov : PySem.W.excOver K c (xTail v) = true
  hd : PySem.W.hasDictIn K c = true
  ga : PySem.W.findIn K (.ref c) "__getattribute__" = some (some (.builtin "BaseException.__getattribute__"))
  gg : PySem.W.findIn K (.ref c) "__getattr__" = some none
  bx : PySem.W.subIn K (.ref c) (.type "BaseException") = some true
  ca : PySem.W.findIn K (.ref c) "__class__" = some (some (.builtin "object.__class__"))
  cn : PySem.W.specialIn K (.builtin "object.__class__") "__get__" = some (some (.builtin "getset_descriptor.__get__"))
  ct : PySem.W.takesIn K (.builtin "object.__class__") = some true
  cm : PySem.W.mroIn K c (.type "object") = some true
def obt1 (a : Option Bool) (b : Bool) : Bool := match a with
  | some c => eqBl c b
  | none => false
theorem eqBl_ok : ∀ {a b : Bool}, eqBl a b = true → a = b
  | true, true, _ => rfl
  | false, false, _ => rfl
  | true, false, h => by cases h
  | false, true, h => by cases h
theorem obt1_ok {a : Option Bool} {b : Bool} (h : obt1 a b = true) : a = some b := by
  unfold obt1 at h
  split at h
  · rw [eqBl_ok h]
  · cases h
def xeB (K : PySem.W.Frag) (c : Addr) (v : Bool) : Bool := PySem.W.keepIn K (.ref c) && (He.eqO (PySem.W.findIn K (.ref c) "__setattr__") (some (some (.builtin "object.__setattr__"))) && (PySem.W.excOver K c (xTail v) && (PySem.W.hasDictIn K c &&
  (He.eqO (PySem.W.findIn K (.ref c) "__getattribute__") (some (some (.builtin "BaseException.__getattribute__"))) && (He.eqO (PySem.W.findIn K (.ref c) "__getattr__") (some none) && (obt1 (PySem.W.subIn K (.ref c) (.type "BaseException")) true &&
  (He.eqO (PySem.W.findIn K (.ref c) "__class__") (some (some (.builtin "object.__class__"))) && (He.eqO (PySem.W.specialIn K (.builtin "object.__class__") "__get__") (some (some (.builtin "getset_descriptor.__get__"))) &&
  (obt1 (PySem.W.takesIn K (.builtin "object.__class__")) true && obt1 (PySem.W.mroIn K c (.type "object")) true)))))))))
theorem xeB_ok {K : PySem.W.Frag} {c : Addr} {v : Bool} (h : xeB K c v = true) : XeC K c v := by
  obtain ⟨h1, h⟩ := Bool.and_eq_true_iff.mp h; obtain ⟨h2, h⟩ := Bool.and_eq_true_iff.mp h
  obtain ⟨h3, h⟩ := Bool.and_eq_true_iff.mp h
  obtain ⟨h4, h⟩ := Bool.and_eq_true_iff.mp h
  obtain ⟨h5, h⟩ := Bool.and_eq_true_iff.mp h
  obtain ⟨h6, h⟩ := Bool.and_eq_true_iff.mp h
  obtain ⟨h7, h⟩ := Bool.and_eq_true_iff.mp h
  obtain ⟨h8, h⟩ := Bool.and_eq_true_iff.mp h
  obtain ⟨h9, h⟩ := Bool.and_eq_true_iff.mp h
  obtain ⟨ha, hb⟩ := Bool.and_eq_true_iff.mp h
  exact ⟨h1, He.eqO_ok h2, h3, h4, He.eqO_ok h5, He.eqO_ok h6, obt1_ok h7, He.eqO_ok h8, He.eqO_ok h9, obt1_ok ha, obt1_ok hb⟩
/-- .. with an own __init__, the def at f -/
structure XeI (K : PySem.W.Frag) (c f : Addr) (v : Bool) : Prop where
  ii : PySem.W.excInitIn K c (xTail v) (xNew v) = true
  fi : PySem.W.findIn K (.ref c) "__init__" = some (some (.ref f))
  fn : PySem.W.typeIn K (.ref f) = some (.type "function")
def xiB (K : PySem.W.Frag) (c f : Addr) (v : Bool) : Bool := PySem.W.excInitIn K c (xTail v) (xNew v) && (He.eqO (PySem.W.findIn K (.ref c) "__init__") (some (some (.ref f))) && decide (PySem.W.typeIn K (.ref f) = some (.type "function")))
theorem xiB_ok {K : PySem.W.Frag} {c f : Addr} {v : Bool} (h : xiB K c f v = true) : XeI K c f v := by
  obtain ⟨h1, h⟩ := Bool.and_eq_true_iff.mp h; obtain ⟨h2, h3⟩ := Bool.and_eq_true_iff.mp h
  exact ⟨h1, He.eqO_ok h2, of_decide_eq_true h3⟩
/-- no attribute of the class is of the name f -/
def xnB (K : PySem.W.Frag) (c : Addr) (f : Str) : Bool := He.eqO (PySem.W.findIn K (.ref c) f) (some none)
section
open PySem.W Builtin Builtin.ObjectAttr
variable {prog : Program} {w : World} {A : Around} {E : Value → Shared → Prop} {R : Result → Shared → Prop} {hp : Heap} {g : Array GenState} {d : Drawn} {t : Nat} {os : OsState} {K : PySem.W.Frag}
theorem xosa {name : Str} {tk : Tok} {u : Value} {x c t1 : Addr} {v : Bool} (X : K.In hp) (T : XeC K c v) (hx : hp.get? x = some ({ cls := .ref c, dict := none, data := .fields #[.ref t1, .none, .none, .none, .bool false, .none] } : Obj)) (ha : PySem.W.findIn K (.ref c) name = some none)
    (hq : ∀ h' tk' dx, (∀ b o, b ≠ x → hp.get? b = some o → h'.get? b = some o) → hp.objs.size ≤ dx → dx ≠ x → h'.get? x = some ({ cls := .ref c, dict := some dx, data := .fields #[.ref t1, .none, .none, .none, .bool false, .none] } : Obj) →
      h'.Ns1 dx (fun y => if y = name then some u else none) → R (.ok (.ret .none)) ⟨h', g, d, tk', os⟩) :
    codeAny (model prog w) A (.call (.builtin "object.__setattr__") ⟨[.ref x, .str name tk, u], []⟩) R ⟨hp, g, d, t, os⟩ := by
  refine osa_openX (s := ⟨hp, g, d, t, os⟩) (od := none) (r := none) (xSF v) X ⟨hx, rfl, rfl, trivial⟩ T.ov (by unfold takerIn; rw [ha]; rfl) fun b => ?_
  obtain ⟨cd, hc, hd'⟩ := any_some T.hd
  have hxs : x ≠ hp.objs.size := Nat.ne_of_lt (Heap.lt_size hx); have hx₁ : (hp.push (dictOf [] 0)).get? x = some ({ cls := .ref c, dict := none, data := .fields #[.ref t1, .none, .none, .none, .bool false, .none] } : Obj) := Heap.get?_push_of_some _ hx
  refine wpAny_bind (wpAny_pure (wpAny_bind (instanceDict_exc (s := ⟨hp, g, d, t, os⟩) hx (looks_clsIn X hc) hd' ?_)))
  show wpAny _ _ (storeInDict hp.objs.size (.str name tk) name u) _ _ _
  refine HandSPX.store_in_new (hp := (hp.push (dictOf [] 0)).update x fun o => { o with dict := some hp.objs.size }) ?_ fun h' tk' hn' hs => ?_
  · exact ⟨_, #[], _, (Heap.get?_update_other _ _ hxs).trans (Heap.get?_push_at rfl rfl), rfl, fun e he => absurd he (by simp), fun _ => rfl⟩
  · refine hq h' tk' hp.objs.size (fun b o hb ho => ?_) (Nat.le_refl _) hxs.symm ?_ hn'
    · exact (hs.2 b (Nat.ne_of_lt (Heap.lt_size ho))).trans ((Heap.get?_update_other _ _ (Ne.symm hb)).trans (Heap.get?_push_of_some _ ho))
    · exact ((hs.2 x hxs).trans (Heap.get?_update_self _ hx₁ rfl))
end
section
variable {X : Cx} {pins : List (Addr × Obj)} {σ : L2.St} {H : Hp} {s : Shared} {a c : Addr} {f : Str} {y : V} {u : Value} {v : Bool} {Q : Unit → Shared → Prop} {E : Value → Shared → Prop} {A : Around}
/-- self.f = y, the first one -/
theorem xst_new (T : XeC X.K c v) (I : Inv X pins σ H s) (e : H a = some (exo a c none)) (hno : PySem.W.findIn X.K (.ref c) f = some none) (ry : RelV y u)
    (h : ∀ dx s', H dx = none → dx ≠ a → Inv X pins σ (upd (upd H dx (exd dx [(f, y)])) a (exo a c (some dx))) s' → Q () s') : wpAny (model X.prog X.w) A (setAttr (.ref a) f u) Q E s := by
  obtain ⟨t1, ho⟩ := exo_at I.hok e; obtain ⟨hp, g, d, t, os⟩ := s
  refine PySem.W.set_plain I.kIn (ox := { cls := .ref c, dict := none, data := .fields #[.ref t1, .none, .none, .none, .bool false, .none] }) (od := none) ⟨ho, rfl, rfl, trivial⟩ T.sa ?_
  refine xosa I.kIn T ho hno (fun h' tk' dx k dn dne hx hn => ?_)
  have hnd : H dx = none := I.hok.fresh dn; have nd : ∀ {b : Addr} {o : Obj}, hp.get? b = some o → b ≠ dx := fun {b o} q => Nat.ne_of_lt (Nat.lt_of_lt_of_le (Heap.lt_size q) dn)
  have na : ∀ {b : Addr}, H b = none → b ≠ a := fun {b} n z => by rw [z, e] at n; cases n
  have Un1 : Un X.fs [] H (upd (upd H dx (exd dx [(f, y)])) a (exo a c (some dx))) hp h' := by
    refine ⟨fun b o q n _ _ => k b o (na n) q, fun b o q n _ _ => ⟨o.slots, k b o (na n) q⟩, fun b o q n _ => by rw [upd_ne (na n), upd_ne (nd q)]; exact n, fun b o q _ => ?_, fun b xs q => ?_, fun b o v q => ?_, fun b ps q => ⟨#[], ?_⟩⟩
    · by_cases hb : b = a
      · exact ⟨_, hb ▸ hx⟩
      · exact ⟨o, k b o hb q⟩
    · rw [upd_ne (at_ne e q exo_tup), upd_ne (ne_of_none q hnd)]; exact q
    · rw [upd_ne (at_ne e q exo_frz), upd_ne (ne_of_none q hnd)]; exact q
    · rw [upd_ne (at_ne e q exo_tbl), upd_ne (ne_of_none q hnd), q]; simp
  refine (h dx _ hnd dne (I.un (t' := tk') Un1 fun b o q => ?_))
  by_cases hb : b = a
  · subst hb
    rw [upd_same] at q; cases q
    exact exo_ok hx
  · rw [upd_ne hb] at q
    by_cases hd : b = dx
    · subst hd
      rw [upd_same] at q; cases q
      exact (exd_ok hn (relO_put (fs := []) ry fun g => True.intro))
    · rw [upd_ne hd] at q
      refine (I.hok b o q).stay (fun c v hc z => k c v ?_ z) (fun c hc => ?_) (fun c xs hc => ?_)
      · rcases hc with hc | hc
        · rw [hc]; exact hb
        · exact at_ne e hc exo_own
      · rw [upd_ne (at_ne e hc exo_own), upd_ne (ne_of_none hc hnd)]; exact hc
      · rw [upd_ne (at_ne e hc exo_tup), upd_ne (ne_of_none hc hnd)]; exact hc
end
end Pd

/-! own exceptions as values: the worlds, the own __init__, C(e) -/
namespace Pd
open L2 PySem PySem.Spec PyProof.Rows
section
variable {C : Cfg} {M : Wd} {S : Sto} {H : Hp}
def Wd.kpt (M : Wd) (a : Addr) (o : HO) : Wd := ⟨M.fz, M.mu, M.lk, fun b => if b = a then some o else M.kp b⟩
/-- a new object that is kept exactly -/
theorem Sim.kpt (s : Sim C M S H) {a : Addr} {o : HO} (h : H a = none) (nt : ∀ vs, o ≠ .tup vs) : M.le (M.kpt a o) ∧ Sim C (M.kpt a o) S (upd H a o) := by
  have l : M.le (M.kpt a o) := ⟨fun _ _ e => e, fun _ _ e => e, fun _ _ e => e, fun b u e => by
    show (if b = a then some o else M.kp b) = some u
    rw [if_neg (ne_of_none (s.kp b u e).1 h)]; exact e⟩
  refine ⟨l, fun b u e => ?_, fun n m e => ?_, s.inj, s.nx, fun b od u e => lk_ne (H' := H) s e h, fun b u e => ?_⟩
  · have e0 : M.fz b = some u := e
    have hb : ¬ b = a := fun z => by subst z; rw [s.free h] at e0; cases e0
    rcases s.fr _ _ e0 with q | ⟨q, ob, z⟩
    · exact .inl (by rw [upd_ne hb]; exact q)
    · exact .inr ⟨q, ob, by rw [upd_ne hb]; exact z⟩
  · obtain ⟨b, u, h1, h2, h3, h4⟩ := s.al n m e
    exact ⟨b, u, h1, by rw [upd_ne (ne_of_none h2 h)]; exact h2, h3, h4.mono l⟩
  · have e : (if b = a then some o else M.kp b) = some u := e
    by_cases hb : b = a
    · rw [if_pos hb] at e; cases e
      subst hb
      refine ⟨upd_same, s.free h, nt, fun n hn z => ?_⟩
      obtain ⟨m, em⟩ := Option.isSome_iff_exists.mp hn
      obtain ⟨b2, u2, z1, z2, _⟩ := s.al n m em
      rw [show M.mu n = some b from z] at z1; cases z1
      rw [h] at z2; cases z2
    · rw [if_neg hb] at e
      obtain ⟨k1, k2, k3, k4⟩ := s.kp b u e
      exact ⟨by rw [upd_ne hb]; exact k1, k2, k3, k4⟩
def Wd.xn (M : Wd) (a dx : Addr) (o1 o2 : HO) : Wd := ⟨upd (upd M.fz dx o2) a o1, M.mu, M.lk, fun b => if b = a then none else M.kp b⟩
/-- an exception that was being made, with its dict -/
theorem Sim.xn (s : Sim C M S H) {a c dx : Addr} {fv : List (Str × V)} (hk : M.kp a = some (exo a c none)) (hd : H dx = none) :
    M.lev (M.xn a dx (exo a c (some dx)) (exd dx fv)) ∧ Sim C (M.xn a dx (exo a c (some dx)) (exd dx fv)) S (upd (upd H dx (exd dx fv)) a (exo a c (some dx))) := by
  obtain ⟨k1, k2, k3, k4⟩ := s.kp a _ hk
  have fa : ∀ b u, M.fz b = some u → ¬ b = a := fun b u e z => by rw [z, k2] at e; cases e
  have fd : ∀ b u, M.fz b = some u → ¬ b = dx := fun b u e z => by rw [z, s.free hd] at e; cases e
  have l : M.lev (M.xn a dx (exo a c (some dx)) (exd dx fv)) := ⟨fun b u e => by
    show upd (upd M.fz dx _) a _ b = some u
    rw [upd_ne (fa b u e), upd_ne (fd b u e)]; exact e, fun _ _ e => e⟩
  have at_ : ∀ b u, ¬ b = a → H b = some u → upd (upd H dx (exd dx fv)) a (exo a c (some dx)) b = some u := fun b u h1 e => by
    rw [upd_ne h1, upd_ne (ne_of_none e hd)]; exact e
  refine ⟨l, fun b u e => ?_, fun n m e => ?_, s.inj, s.nx, fun b od u e => ?_, fun b u e => ?_⟩
  · have e : upd (upd M.fz dx (exd dx fv)) a (exo a c (some dx)) b = some u := e
    by_cases hb : b = a
    · rw [hb, upd_same] at e; cases e
      rw [hb]; exact .inl upd_same
    · rw [upd_ne hb] at e
      by_cases hb2 : b = dx
      · rw [hb2, upd_same] at e; cases e
        exact .inl (by rw [upd_ne hb, hb2, upd_same])
      · rw [upd_ne hb2] at e
        rcases s.fr _ _ e with q | ⟨q, ob, z⟩
        · exact .inl (at_ b _ hb q)
        · exact .inr ⟨q, ob, at_ b _ hb z⟩
  · obtain ⟨b, u, h1, h2, h3, h4⟩ := s.al n m e
    have hb : ¬ b = a := fun z => k4 n (by rw [e]; rfl) (by rw [h1, z])
    refine ⟨b, u, h1, at_ b _ hb h2, ?_, h4.monoV l⟩
    show upd (upd M.fz dx _) a _ b = none
    rw [upd_ne hb, upd_ne (ne_of_none h2 hd)]; exact h3
  · have q := s.lk _ _ _ e
    have hb : ¬ b = a := fun z => by rw [z, k1] at q; exact exo_frz (Option.some.inj q)
    exact at_ b _ hb q
  · have e : (if b = a then none else M.kp b) = some u := e
    by_cases hb : b = a
    · rw [if_pos hb] at e; cases e
    · rw [if_neg hb] at e
      obtain ⟨j1, j2, j3, j4⟩ := s.kp b u e
      refine ⟨at_ b _ hb j1, ?_, j3, j4⟩
      show upd (upd M.fz dx _) a _ b = none
      rw [upd_ne hb, upd_ne (ne_of_none j1 hd)]; exact j2
end
/-- self.f = e, self being made -/
def tXst (K : PySem.W.Frag) (f : Str) (to te : TE) : TS := fun D σ H => te σ H fun y H1 => to σ H1 fun x H2 => ∃ (a c : Addr) (v : Bool), x = .ref a ∧ XeC K c v ∧ PySem.W.findIn K (.ref c) f = some none ∧
  H2 a = some (exo a c none) ∧ ∀ dx, H2 dx = none → dx ≠ a → D.nx σ (upd (upd H2 dx (exd dx [(f, y)])) a (exo a c (some dx)))
section
variable {X : Cx} {o e : Expr} {es : List Expr} {to te : TE} {ta : TA} {f : Str} {p p' p1 p2 pos : Pos}
theorem ps_xst (ho : PE X o to) (he : PE X e te) (hs : swapsWith e (some (.Attribute o f p')) pos.line X.env = pure false := by rfl) : PS X (.Assign [.Attribute o f p'] e pos) (tXst X.K f to te) := by
  refine ⟨fun pins s σ H D I h => ?_⟩; refine plainObj_wpAny_Assign_Attribute (thn (he.run pins s σ H _ I h) fun w s1 ⟨y, H1, I1, r1, q1⟩ => thn (ho.run pins s1 σ H1 _ I1 q1) fun u s2 ⟨x, H2, I2, r2, a, c, v, ex, T, hno, ea, q⟩ => ?_) hs
  subst ex
  obtain rfl : u = Value.ref a := r2; exact xst_new T I2 ea hno r1 fun dx s' n ne J => ⟨σ, _, J, q dx n ne⟩
end
/-- the promise of such an __init__ -/
def spI (C : Cfg) (c : Nat) (f : Str) (fe : DE) : Sp := fun vs H Q E => ∃ M S a x d, vs = [.ref a, x] ∧ Sim C M S H ∧ M.kp a = some (exo a (C.ga c) none) ∧ Rep C M d x ∧ (match fe [none, some d] S with
  | .ok y S1 => ∀ M' z H1 dx, M.le M' → Sim C M' S1 H1 → Rep C M' y z → H1 dx = none → Q .non (upd (upd H1 dx (exd dx [(f, z)])) a (exo a (C.ga c) (some dx)))
  | _ => False)
section
variable {P : Program} {w : World} {K : PySem.W.Frag} {mg : Str → Option Value} {base : Heap} {C : Cfg} {x qual : Str} {params : Arguments} {scope : Scope} {fI : Addr} {fd : FuncData}
theorem okx {c k : Nat} {v : Bool} {slf pr f : Str} {e : Expr} {fe : DE} {p1 p2 pos : Pos} (hK : K = C.K) (F : FunD K x qual params [.Assign [.Attribute (.Name slf p1) f p2] e pos] scope [] [] fI fd) (S : FnScope [slf, pr] [slf, pr] scope) (T : XeC K (C.ga c) v) (hno : PySem.W.findIn K (.ref (C.ga c)) f = some none)
    (hself : ∀ (cdv : Value) (A : Around) (outer : List Env) (s : Shared) (H : Hp) (E : XK), PE (cxOf CX0 P w K mg base [slf, pr] qual scope fI cdv A outer s H E) (.Name slf p1) (tVar 0))
    (hbody : ∀ (cdv : Value) (A : Around) (outer : List Env) (s : Shared) (H : Hp) (E : XK), Room k (A.deeper (envOfC qual scope s.heap.objs.size fI cdv)) → PE (cxOf CX0 P w K mg base [slf, pr] qual scope fI cdv A outer s H E) e (tE C E fe))
    (hs : ∀ (cdv : Value) (A : Around) (outer : List Env) (s : Shared) (H : Hp) (E : XK), swapsWith e (some (.Attribute (.Name slf p1) f p2)) pos.line (cxOf CX0 P w K mg base [slf, pr] qual scope fI cdv A outer s H E).env = pure false) :
    FnOk P w K mg base CX0 (k + 1) fI fd [slf, pr] (spI C c f fe) := by
  refine F.ok S (fun vs H Q E h => ?_) (fun cdv A outer s H vs Q E hr h => ⟨_, pss_one (ps_xst (hself cdv A outer s H E) (hbody cdv A outer s H E hr) (hs cdv A outer s H E)), ?_⟩)
  · obtain ⟨M, S, a, x, d, rfl, _⟩ := h; rfl
  · obtain ⟨M, S, a, x, d, rfl, sm, hk, r, q⟩ := h
    refine ⟨M, [none, some d], S, ⟨rfl, fun i d' h => ?_⟩, sm, ?_⟩
    · match i with
      | 0 => cases h
      | 1 => cases h; exact ⟨x, rfl, r⟩
      | i + 2 => simp at h
    · cases e : fe [none, some d] S with
      | ok y S1 =>
        rw [e] at q
        intro M' z H1 l s1 r1
        obtain ⟨k1, _⟩ := s1.kp a _ (l.2.2.2 _ _ hk)
        refine ⟨.ref a, rfl, a, C.ga c, v, rfl, T, hno, k1, fun dx hd _ => q M' z H1 dx l s1 r1 hd⟩
      | exc _ _ _ => rw [e] at q; exact q.elim
      | bad => rw [e] at q; exact q.elim
end
/-! ### C(e) -/
def dXn (c j : Nat) (fe : DE) (fa : DA) : DE := fun Γ S => (fa Γ S).bind fun ds S1 => match ds with
  | [d] => (match fe [none, some d] S1 with
    | .ok y S2 => .ok (.xn c [(j, y)]) S2
    | _ => .bad)
  | _ => .bad
def dX0 (c : Nat) : DE := fun _ S => .ok (.xn c []) S
def tMx (c : Addr) (sp : Sp) (ta : TA) : TE := fun σ H Q => ta σ H fun vs H1 => vs.length ≤ 1000 ∧ ∀ a, H1 a = none → sp (.ref a :: vs) (upd H1 a (exo a c none)) (fun v H2 => v = .non ∧ Q (.ref a) H2) (fun _ _ _ => False)
section
variable {X : Cx} {e : Expr} {es : List Expr} {ta : TA} {f x : Str} {p pos : Pos} {c fI : Addr} {k : Nat} {fd : FuncData} {ps : List Str} {sp : Sp} {v : Bool}
theorem pe_mx (T : XeC X.K c v) (TI : XeI X.K c fI v) (F1 : FnOk X.prog X.w X.K X.mg X.base CX0 k fI fd ps sp) (hr : Room (k + 1) X.A) (hb : Binds X.K fd ps []) (hg : Gl X x) (hm : X.mg x = some (.ref c)) (ha : PA X (e :: es) ta) (hdb : (x == ("__debug__" : Str)) = false := by decide) (he : starEach (e :: es) X.env = (false, eval e X.env) :: starEach es X.env := by rfl) (hpl : (backTo pos (starEach es X.env)).any (·.1) = false := by rfl) :
    PE X (.Call (.Name x p) (e :: es) [] pos) (tMx c sp ta) := by
  refine ⟨fun pins s σ H Q I h => ?_⟩; refine wpAny_Call_Name_kw (ld_glob I hg hm ?_ hdb)
  refine PySem.W.callWith_K (h₀ := X.base) I.ok.mod.kin T.kC (thn (ha.run pos pins s σ H _ I h) fun us s1 ⟨vs, H1, I1, r1, hz, q1⟩ => ⟨I1.kIn, ?_⟩) he hpl; show wpAny _ _ (call (.ref c) us) _ _ _
  obtain ⟨nm, N', qn, bs, bm, hdct, sn, sub, ab, col, dd, k0, k1, k2, k3, k5, hC, hT⟩ := PySem.W.excInit_of I1.kIn TI.ii
  obtain ⟨hp, g, dr, tk, os⟩ := s1; have hsz : hp.objs.size ≤ hp.objs.size + 1 := Nat.le_succ _
  have hn : H1 (hp.objs.size + 1) = none := I1.hok.fresh hsz; have hq := q1 (hp.objs.size + 1) hn
  have kk : ∀ b o, hp.get? b = some o → ((hp.push (PySem.W.kdv_tup us)).push (PySem.HandSPX.excO c hp.objs.size)).get? b = some o := fun b o e => Heap.get?_push_of_some _ (Heap.get?_push_of_some _ e)
  have hget : ((hp.push (PySem.W.kdv_tup us)).push (PySem.HandSPX.excO c hp.objs.size)).get? (hp.objs.size + 1) = some (PySem.HandSPX.excO c hp.objs.size) := by heap_get
  have I2 : Inv X pins σ (upd H1 (hp.objs.size + 1) (exo (hp.objs.size + 1) c none)) ⟨(hp.push (PySem.W.kdv_tup us)).push (PySem.HandSPX.excO c hp.objs.size), g, dr, tk, os⟩ :=
    I1.laid (t' := tk) (a := hp.objs.size + 1) (o := exo (hp.objs.size + 1) c none) (h' := (hp.push (PySem.W.kdv_tup us)).push (PySem.HandSPX.excO c hp.objs.size)) kk hsz (exo_ok hget)
  have r2 : Vals (V.ref (hp.objs.size + 1) :: vs) (Value.ref (hp.objs.size + 1) :: us) := .cons rfl r1; have hl : (Value.ref (hp.objs.size + 1) :: us ++ []).length = ps.length := by
    rw [List.append_nil, ← r2.length]; exact F1.len _ _ _ _ hq
  have hus : (us.length ≤ sizeLine) := by
    rw [← Paired.length r1, sizeLine_eq]; omega
  refine wpAny_call (PySem.HandSPX.call_own (xFB v) hT hC (PySem.W.looks_findIn I1.kIn TI.fi) (fun self => PySem.W.bind_fn I1.kIn self TI.fn) hus
    (codeAny_mono (F1.run _ X.stack _ _ ⟨Value.ref (hp.objs.size + 1) :: us, []⟩ (Value.ref (hp.objs.size + 1) :: us) _ _ (fun _ _ _ => False) (hr.make c us []) (I2.env0.make c us []) (by
      have hb' := hb _ (Value.ref (hp.objs.size + 1) :: us) I2.kIn hl
      rw [List.append_nil] at hb'; exact hb') r2 hq) fun r s' hq' => ?_))
  cases r with
  | error er => exact hq'.elim
  | ok fl =>
    cases fl with
    | ret u =>
      obtain ⟨w', H2, I3, rv, ev, q2⟩ := I2.after hq'
      subst ev
      exact ⟨rv, .ref (hp.objs.size + 1), H2, I3, rfl, q2⟩
    | next => exact False.elim hq'
    | brk => exact False.elim hq'
    | cont => exact False.elim hq'
/-- C(), no own __init__ -/
theorem pe_mx0 (T : XeC X.K c v) (e0 : PySem.W.excIn X.K c (xTail v) (xNew v) = true) (hg : Gl X x) (hm : X.mg x = some (.ref c)) (hdb : (x == ("__debug__" : Str)) = false := by decide) :
    PE X (.Call (.Name x p) [] [] pos) (fun σ H Q => ∀ a, H a = none → Q (.ref a) (upd H a (exo a c none))) := by
  refine ⟨fun pins s σ H Q I h => ?_⟩; refine wpAny_Call_Name_kw (ld_glob I hg hm ?_ hdb)
  refine PySem.W.callWith_K0 I.kIn T.kC ?_
  show wpAny _ _ (call (.ref c) []) _ _ _
  obtain ⟨bm, N, nm, qn, bs, hdct, sn, sub, ab, col, dd, k0, k1, k2, k3, k5, mN, hC, hN, hni, TT⟩ := exc_obj I.kIn e0
  refine wpAny_call_exc_subT (xFB v) TT hC hN hni (fun h' a hm => ?_) (by show 0 ≤ sizeLine; exact Nat.zero_le _)
  have hn : H a = none := I.hok.gone hm.new
  obtain ⟨t, ht, _, _⟩ := hm.there; exact ⟨.ref a, upd H a (exo a c none), I.laidN hm.keeps hm.new hn (exo_ok ht), rfl, h a hn⟩
end
section
variable {X : Cx} {C : Cfg} {W : XK} {e : Expr} {es : List Expr} {f x : Str} {p pos : Pos} {c j : Nat} {fI : Addr} {k : Nat} {fd : FuncData} {ps : List Str} {v : Bool} {fe : DE} {fa : DA}
theorem xmx (hK : X.K = C.K) (T : XeC X.K (C.ga c) v) (TI : XeI X.K (C.ga c) fI v) (hj : C.an[j]? = some f) (F1 : FnOk X.prog X.w X.K X.mg X.base CX0 k fI fd ps (spI C c f fe)) (hr : Room (k + 1) X.A) (hb : Binds X.K fd ps []) (hg : Gl X x) (hm : X.mg x = some (.ref (C.ga c))) (ha : PA X (e :: es) (tA C W fa)) (hdb : (x == ("__debug__" : Str)) = false := by decide) (he : starEach (e :: es) X.env = (false, eval e X.env) :: starEach es X.env := by rfl) (hpl : (backTo pos (starEach es X.env)).any (·.1) = false := by rfl) :
    PE X (.Call (.Name x p) (e :: es) [] pos) (tE C W (dXn c j fe fa)) :=
  (pe_mx T TI F1 hr hb hg hm ha hdb he hpl).by fun σ H Q ⟨M, Γ, S, g, s, h⟩ => runA g s h fun M1 ds S1 vs H1 l1 s1 r1 h1 => by
    split at h1
    · rename_i d
      obtain ⟨z, rfl, rz⟩ := one_of r1
      refine ⟨by show 1 ≤ 1000; decide, fun a hn => ?_⟩
      obtain ⟨l2, s2⟩ := s1.kpt (o := exo a (C.ga c) none) hn (fun vs z => exo_tup z)
      refine ⟨_, S1, a, z, d, rfl, s2, if_pos rfl, rz.mono l2, ?_⟩
      split at h1
      · rename_i y S2 e2
        intro M' z' H2 dx l3 s3 r3 hd
        have hk : M'.kp a = some (exo a (C.ga c) none) := l3.2.2.2 _ _ (if_pos rfl)
        obtain ⟨l4, s4⟩ := s3.xn (fv := [(f, z')]) hk hd
        have l5 := l2.trans l3
        have hna : M1.kp a = none := by
          cases q : M1.kp a with
          | none => rfl
          | some o => have := (s1.kp a o q).1; rw [hn] at this; cases this
        have nad : ¬ dx = a := fun z => by
          have := (s3.kp a _ hk).1
          rw [← z, hd] at this; cases this
        refine ⟨rfl, h1 _ _ _ ⟨fun b o q => l4.1 b o (l5.1 b o q), fun n b q => l4.2 n b (l5.2.1 n b q), fun b q q2 => l5.2.2.1 b q q2, fun b o q => ?_⟩ s4 (.xn (fv := [(f, z')]) upd_same ?_ (by simp [hj]) ?_)⟩
        · show (if b = a then none else M'.kp b) = some o
          rw [if_neg (fun z => by rw [z, hna] at q; cases q)]
          exact l5.2.2.2 b o q
        · show upd (upd M'.fz dx _) a _ dx = _
          rw [upd_ne nad, upd_same]
        · intro i k d k' v' q1 q2
          match i with
          | 0 => cases q1; cases q2; exact r3.monoV l4
          | i + 1 => simp at q1
      · exact h1.elim
    · exact h1.elim
theorem xmx0 (T : XeC X.K (C.ga c) v) (e0 : PySem.W.excIn X.K (C.ga c) (xTail v) (xNew v) = true) (hg : Gl X x) (hm : X.mg x = some (.ref (C.ga c))) (hdb : (x == ("__debug__" : Str)) = false := by decide) :
    PE X (.Call (.Name x p) [] [] pos) (tE C W (dX0 c)) :=
  (pe_mx0 T e0 hg hm hdb).by fun σ H Q ⟨M, Γ, S, g, s, h⟩ a hn => by
    have h : GoodE C M (.ok (.xn c []) S) Q W := h
    exact h (M.lay a (exo a (C.ga c) none)) (.ref a) _ (Wd.lay_le (s.free hn)) (s.lay hn) (.xn0 upd_same)
end
end Pd

/-! own exceptions as values: isinstance, attributes; defs that are called where nothing is under way -/
namespace PySem.W
open PySem
section
open Pd
variable {prog : Program} {w : World} {A : Around} {E : Value → Shared → Prop} {s : Shared} {K : Frag} {x D : Addr} {ox : Obj} {od : Option Obj} {v : Bool}
theorem xfindObj {C : Addr} {name : Str} {a g : Value} (hc : (clsIn K C).isSome = true) (ha : findIn K (.ref C) name = some (some a)) (hg : specialIn K a "__get__" = some (some g)) (ht : takesIn K a = some true) : findObj K C od name = some (.bind g a) := by
  obtain ⟨cd, hc⟩ := (Option.isSome_iff_exists.mp hc)
  unfold findObj
  rw [hc, Option.bind_some, ha, Option.bind_some]; simp only [hg, Option.bind_some, ht]
theorem xkin_class {Q : Option Value → Shared → Prop} (T : XeC K D v) (X : K.In s.heap) (I : InstAt s.heap x ox D od) (h : Q (some (.ref D)) { s with toks := s.toks + 1 }) : wpAny (model prog w) A (getAttr? (.ref x) "__class__") Q E s := by
  obtain ⟨cdD, hcD, _⟩ := any_some T.hd
  have hf : findObj K D od "__class__" = some (.bind (.builtin "getset_descriptor.__get__") (.builtin "object.__class__")) := xfindObj (by rw [hcD]; rfl) T.ca T.cn T.ct
  obtain ⟨hp, g, d, t, os⟩ := s
  have L0 := I.type (M := model prog w); have L1 := looks_findIn (M := model prog w) X T.ga
  have L2 := looks_findIn (M := model prog w) X T.gg
  have L3 := looks_find (M := model prog w) X I hf; have sub : Looks (model prog w) hp (isInstance (.ref x) (.type "BaseException")) true := L0.andThen (looks_subIn X T.bx)
  have n0 : (false && onTheHeap (Value.builtin "BaseException.__getattribute__")) = false := rfl
  have n2 : (Value.builtin "BaseException.__getattribute__" == Value.builtin "object.__getattribute__") = false := by decide +kernel
  have n1 : (onTheHeap (Value.ref D) && Value.builtin "BaseException.__getattribute__" == Value.builtin "object.__getattribute__") = false := by rw [n2] <;> rfl
  (unfold getAttr? getAttrBy? getAttrBy)
  refine wpAny_bind (wpAny_mkText (wpAny_bind (wpAny_attempt (wpAny_holding (wpAny_bind (L0.at (wpAny_bind (L1.at ?_)))))))); show wpAny _ _ (if (onTheHeap (Value.ref D) && Value.builtin "BaseException.__getattribute__" == Value.builtin "object.__getattribute__") = true then _ else _) _ _ _
  rw [n1, if_neg Bool.false_ne_true]
  (unfold getAttrByItsOwn hookBefore)
  refine wpAny_bind ?_
  rw [if_pos (show onTheHeap (Value.ref D) = true from rfl)]; refine L2.at ?_
  refine (wpAny_bind (wpAny_attempt (wpAny_holding ?_)))
  unfold callGetattribute
  rw [n0, if_neg Bool.false_ne_true]
  unfold boundAndCalled
  rw [PySem.F.excAttr_ValueError.ga.bind (.ref x)]; refine wpAny_bind (wpAny_pure ?_)
  show wpAny _ _ (call (.builtin "BaseException.__getattribute__") [.ref x, .str "__class__" t]) _ _ _; refine wpAny_call (codeAny_call_builtin PySem.F.excAttr_ValueError.ga.plain PySem.F.entry_bexc_ga ?_)
  refine (@check_slot (model prog w) _ _ ⟨hp, g, d, t + 1, os⟩ "BaseException.__getattribute__" "BaseException" "__getattribute__" (.ref x) [.str "__class__" t] [] _ (by decide +kernel) (by decide +kernel) sub (PySem.F.args_bexc_ga (.ref x) (.str "__class__" t)) ?_)
  (unfold Builtin.«object.__getattribute__»)
  refine wpAny_bind (wpAny_of_eq (a := ((Value.ref x : Value), [Value.str "__class__" t])) (by first | rfl | (simp only [slotArgs] <;> rfl)) ?_)
  refine wpAny_bind (wpAny_pure (wpAny_bind (L0.at (wpAny_bind (L3.at ?_))))); show wpAny _ _ (holding [Value.builtin "object.__class__"] (call (.builtin "getset_descriptor.__get__") [.builtin "object.__class__", .ref x, .ref D]) >>= ret) _ _ _
  refine wpAny_bind (wpAny_holding (wpAny_call (class_get (s := ⟨hp, g, d, t + 1, os⟩) (ox := ox) (od := od) X I T.cm ?_)))
  refine wpAny_pure ?_
  show wpAny _ _ (handedOut (.ref D)) _ _ _; rw [handedOut_of (v := .ref D) rfl]
  first
    | exact wpAny_pure (wpAny_pure h)
    | exact wpAny_pure h
    | exact wpAny_pure (wpAny_bind (wpAny_pure (wpAny_pure h)))
theorem xkit (T : XeC K D v) : KitX K (.ref x) (.ref D) (fun h => InstAt h x ox D od) where
  ty := fun _ _ _ I => I.type
  it := fun _ _ X _ => by
    obtain ⟨cdD, hcD, _⟩ := any_some T.hd
    unfold clsIn at hcD
    split at hcD
    · rename_i c' d' cd' sl' ho
      intro A' Q' E' s' k q
      unfold isType loadHead
      exact (wpAny_bind (wpAny_loadPart (k _ _ (X _ _ ho)) (wpAny_pure q)))
    · cases hcD
  ne := fun h tp dd its n sl X htp => by
    obtain ⟨cdD, hcD, _⟩ := any_some T.hd
    refine Bool.eq_false_iff.mpr fun q => ?_; have e : D = tp := Value.ref.inj (beq_iff_eq.mp q)
    subst e
    unfold clsIn at hcD
    split at hcD
    · rename_i c' d' cd' sl' ho
      have z := (X _ _ ho).symm.trans htp; cases z
    · cases hcD
  ca := fun X I k => xkin_class T X I k
end
end PySem.W
namespace Pd
open L2 PySem PySem.Spec PyProof.Rows
/-- at a: an exception of the class at D, whatever its dict -/
def Ix (H : Hp) (a D : Addr) : Prop := H a = some (exo a D none) ∨ ∃ dx fv, H a = some (exo a D (some dx)) ∧ H dx = some (exd dx fv)
section
variable {X : Cx} {pins : List (Addr × Obj)} {σ : L2.St} {H : Hp} {s : Shared} {a D : Addr}
theorem ix_at (I : Inv X pins σ H s) (h : Ix H a D) : ∃ ox od, PySem.W.InstAt s.heap a ox D od := by
  rcases h with h | ⟨dx, fv, h, h2⟩
  · obtain ⟨t1, ho⟩ := exo_at I.hok h
    exact ⟨_, none, ho, rfl, rfl, trivial⟩
  · obtain ⟨t1, ho⟩ := exo_at I.hok h
    obtain ⟨mA, hns, _⟩ := exd_at I.hok h2
    obtain ⟨o, e, _⟩ := lookIn_ns hns
    exact ⟨_, some o, ho, rfl, rfl, e⟩
def rIsX (K : PySem.W.Frag) : List V → Hp → VK → Prop := fun xs H Q => ∃ (a D : Addr) (v : Bool) (c : V) (cv : Value) (b : Bool), xs = [.ref a, c] ∧ Ix H a D ∧ XeC K D v ∧ (∀ u, RelV c u → u = cv) ∧ PySem.W.kitOne K (.ref D) cv = some b ∧ Q (.bl b) H
theorem call_isX : CallR X (.builtin "isinstance") (rIsX X.K) := by
  intro pins s σ H xs us Q I r h; obtain ⟨a, D, v, c, cv, b, rfl, ix, T, hcv, e, q⟩ := h
  cases r with
  | cons rx rr =>
    cases rr with
    | cons rt rr =>
      cases rr
      cases rx
      have ec := hcv _ rt
      subst ec
      obtain ⟨ox, od, J⟩ := ix_at I ix
      exact PySem.W.kia_one (PySem.W.xkit T) I.kIn J e (fun z => nomatch z) fun tk => ⟨.bl b, H, I.kept (t' := tk) fun _ _ z => z, rfl, q⟩
end
def lookB : List (Nat × Bool) → Nat → Option Bool
  | [], _ => none
  | (k, b) :: r, n => match Nat.beq k n with
    | true => some b
    | false => lookB r n
theorem lookB_mem : ∀ {l : List (Nat × Bool)} {n : Nat} {b : Bool}, lookB l n = some b → (n, b) ∈ l
  | (k, b') :: r, n, b, h => by
    unfold lookB at h
    split at h
    · rename_i e
      cases h
      rw [Nat.eq_of_beq_eq_true e]; exact List.mem_cons_self
    · exact List.mem_cons_of_mem _ (lookB_mem h)
def memX : List Nat → Nat → Bool
  | [], _ => false
  | k :: r, n => match Nat.beq k n with
    | true => true
    | false => memX r n
theorem memX_mem : ∀ {l : List Nat} {n : Nat}, memX l n = true → n ∈ l
  | k :: r, n, h => by
    unfold memX at h
    split at h
    · rename_i e
      rw [Nat.eq_of_beq_eq_true e]; exact List.mem_cons_self
    · exact List.mem_cons_of_mem _ (memX_mem h)
section
variable {C : Cfg} {M : Wd} {S : Sto} {H : Hp} {c : Nat} {fs : List (Nat × D)} {v : V}
theorem xn_of (s : Sim C M S H) (r : Rep C M (.xn c fs) v) : ∃ a, v = .ref a ∧ Ix H a (C.ga c) := by
  cases r with
  | xn h h2 hl hr =>
    rename_i a dx fv
    refine ⟨a, rfl, .inr ⟨dx, fv, ?_, ?_⟩⟩
    · rcases s.fr _ _ h with z | ⟨z, _⟩
      · exact z
      · exact z.elim
    · rcases s.fr _ _ h2 with z | ⟨z, _⟩
      · exact z
      · exact z.elim
  | xn0 h =>
    rename_i a
    refine ⟨a, rfl, .inl ?_⟩
    rcases s.fr _ _ h with z | ⟨z, _⟩
    · exact z
    · exact z.elim
theorem xnf_of {j : Nat} {d : D} (s : Sim C M S H) (r : Rep C M (.xn c fs) v) (h : lookF fs j = some d) : ∃ a dx fv, v = .ref a ∧ H a = some (exo a (C.ga c) (some dx)) ∧ H dx = some (exd dx fv) ∧ RepF C M fs fv := by
  cases r with
  | xn h h2 hl hr =>
    rename_i a dx fv
    refine ⟨a, dx, fv, rfl, ?_, ?_, hl, hr⟩
    · rcases s.fr _ _ h with z | ⟨z, _⟩
      · exact z
      · exact z.elim
    · rcases s.fr _ _ h2 with z | ⟨z, _⟩
      · exact z
      · exact z.elim
  | xn0 h2 => cases h
end
/-- isinstance(e, t), e an exception; tb tells the answer by its class -/
def dIsX (tb : List (Nat × Bool)) (fa : DE) : DE := fun Γ S => (fa Γ S).bind fun d S1 => match d with
  | .xn c _ => (match lookB tb c with
    | some b => .ok (.bl b) S1
    | none => .bad)
  | _ => .bad
/-- what is known of the classes of exceptions -/
def XAll (K : PySem.W.Frag) (C : Cfg) (l : List Nat) : Prop := ∀ c ∈ l, ∃ v, XeC K (C.ga c) v
def KitT (K : PySem.W.Frag) (C : Cfg) (tb : List (Nat × Bool)) (cv : Value) : Prop := ∀ p ∈ tb, (∃ v, XeC K (C.ga p.1) v) ∧ PySem.W.kitOne K (.ref (C.ga p.1)) cv = some p.2
section
variable {X : Cx} {C : Cfg} {W : XK} {e ce : Expr} {fa : DE} {p pos : Pos} {tb : List (Nat × Bool)}
theorem xisX {y : V} {cv : Value} (hK : X.K = C.K) (T : KitT C.K C tb cv) (hy : ∀ u, RelV y u → u = cv) (hg : Gl X "isinstance") (hm : X.mg "isinstance" = none) (ha : PE X e (tE C W fa)) (hc : PE X ce (tC y))
    (he : starEach [e, ce] X.env = (false, eval e X.env) :: starEach [ce] X.env := by rfl) (he2 : starEach [ce] X.env = (false, eval ce X.env) :: starEach [] X.env := by rfl) (hpl : (backTo pos (starEach [ce] X.env)).any (·.1) = false := by rfl) :
    PE X (.Call (.Name "isinstance" p) [e, ce] [] pos) (tE C W (dIsX tb fa)) :=
  (pe_callB call_isX hg hm (by rfl) (pa_cons ha (pa_cons hc pa_nil he2) he) (by decide) (by decide) he hpl).by fun σ H Q ⟨M, Γ, S, g, s, h⟩ => run1 g s h fun M1 d S1 x H1 l1 s1 r1 h1 => by
    split at h1
    · rename_i c fs
      split at h1
      · rename_i b eb
        obtain ⟨a, rfl, ix⟩ := xn_of s1 r1
        obtain ⟨⟨v, T1⟩, T2⟩ := T _ (lookB_mem eb)
        exact ⟨a, _, v, y, cv, b, rfl, ix, hK ▸ T1, hy, hK ▸ T2, h1.ok s1 (.bl _)⟩
      · exact h1.elim
    · exact h1.elim
theorem xtyv {x : Str} {n : String} {pos : Pos} (hg : Gl X x) (hm : X.mg x = none) (hv : bootBuiltins x = some (.type n)) (hn : x ≠ "__name__" := by decide) (hd : (x == ("__debug__" : Str)) = false := by decide) : PE X (.Name x pos) (tC (.ty n)) := pe_bltn (v := .ty n) hg hm hv rfl hn hd
end
/-- e.f, e an exception -/
def tXa (K : PySem.W.Frag) (f : Str) (te : TE) : TE := fun σ H Q => te σ H fun x H1 => ∃ (a c : Addr) (v : Bool) (dx : Addr) (fv : List (Str × V)) (y : V), x = .ref a ∧ XeC K c v ∧ PySem.W.findIn K (.ref c) f = some none ∧ H1 a = some (exo a c (some dx)) ∧ H1 dx = some (exd dx fv) ∧ fv.lookup f = some y ∧ Q y H1
def dXf (cs : List Nat) (j : Nat) (fa : DE) : DE := fun Γ S => (fa Γ S).bind fun d S1 => match d with
  | .xn c fs => guard (memX cs c) (match lookF fs j with
    | some y => .ok y S1
    | none => .bad)
  | _ => .bad
section
variable {X : Cx} {C : Cfg} {W : XK} {e : Expr} {te : TE} {fa : DE} {f : Str} {p pos : Pos} {j : Nat} {cs : List Nat}
theorem pe_xa (he : PE X e te) (hb : attributeBase e f X.env (eval e X.env) = eval e X.env := by rfl) : PE X (.Attribute e f pos) (tXa X.K f te) := by
  refine ⟨fun pins s σ H Q I h => ?_⟩; refine attr_of hb (thn (he.run pins s σ H _ I h) fun u s1 hh => ?_)
  obtain ⟨x, H1, I1, rx, a, c, v, dx, fv, y, ex, T, hno, ha, hd, l, q⟩ := hh
  subst ex
  obtain rfl : u = Value.ref a := rx; obtain ⟨t1, hoe⟩ := exo_at I1.hok ha
  obtain ⟨mA, hns, hr⟩ := exd_at I1.hok hd
  obtain ⟨od, ho, hl⟩ := lookIn_ns hns; obtain ⟨u, hu, ru⟩ := RelO.some_of (v := y) (o := mA f) (by rw [← l]; exact hr f)
  have J : PySem.W.InstAt s1.heap a _ c (some od) := ⟨hoe, rfl, rfl, ho⟩
  exact PySem.HandSPX.exc_get I1.kIn J T.ga T.gg T.bx (PySem.W.findObj_own T.hd hno rfl (by rw [hl, hu])) (handed_of ru) ⟨y, H1, I1.tok _, ru, q⟩
theorem xxf (hK : X.K = C.K) (nd : C.an.Nodup) (hj : C.an[j]? = some f) (T : ∀ c ∈ cs, (∃ v, XeC C.K (C.ga c) v) ∧ PySem.W.findIn C.K (.ref (C.ga c)) f = some none) (ho : PE X e (tE C W fa)) (hb : attributeBase e f X.env (eval e X.env) = eval e X.env := by rfl) :
    PE X (.Attribute e f pos) (tE C W (dXf cs j fa)) :=
  (pe_xa ho hb).by fun σ H Q ⟨M, Γ, S, g, s, h⟩ => run1 g s h fun M1 d S1 x H1 l1 s1 r1 h1 => by
    split at h1
    · rename_i c fs
      obtain ⟨g1, h3⟩ := guard_ok h1
      clear h1
      split at h3
      · rename_i y ey
        obtain ⟨a, dx, fv, rfl, ha, hd, rf⟩ := xnf_of s1 r1 ey
        obtain ⟨u, hu, ru⟩ := lookF_of nd hj rf ey
        obtain ⟨⟨v, T1⟩, T2⟩ := T c (memX_mem g1)
        exact ⟨a, _, v, dx, fv, u, rfl, hK ▸ T1, hK ▸ T2, ha, hd, hu, h3.ok s1 ru⟩
      · exact h3.elim
    · exact h1.elim
end
/-! ### defs that are called where nothing is under way -/
structure FnOkG (P : Program) (w : World) (K : PySem.W.Frag) (mg : Str → Option Value) (base : Heap) (k : Nat) (f : Addr) (fd : FuncData) (ps : List Str) (sp : Sp) : Prop where
  len : ∀ vs H Q E, sp vs H Q E → vs.length = ps.length
  run : ∀ (A : Around) (outer : List Env) (s : Shared) (H : Hp) (us : List Value) (vs : List V) (Q : VK) (E : XK), A.guards = some [] → Room k A → Env0 P w K mg base A outer s H → BindsTo s fd ⟨us, []⟩ (ps.zip us) → Vals vs us → sp vs H Q E →
    codeAny (model P w) A (.call (.ref f) ⟨us, []⟩) (CR CX0 outer P w H s Q E) s
def OkG (P : Program) (w : World) (K : PySem.W.Frag) (mg : Str → Option Value) (base : Heap) (C : Cfg) (k : Nat) (a : Addr) (n : Nat) (f : List D → Sto → Res D) : Prop :=
  ∃ (fd : FuncData) (ps : List Str), FnOkG P w K mg base k a fd ps (spD C n f) ∧ PySem.W.keepIn K (.ref a) = true ∧ Binds K fd ps []
section
variable {P : Program} {w : World} {K : PySem.W.Frag} {mg : Str → Option Value} {base : Heap} {C : Cfg} {x qual : Str} {params : Arguments} {body : List Stmt} {scope : Scope} {f : Addr} {fd : FuncData}
theorem okg {N ps : List Str} {k : Nat} {fb : DS} (F : FunD K x qual params body scope [] [] f fd) (S : FnScope N ps scope) (hle : Nat.ble ps.length N.length = true) (hb : Binds K fd ps [])
    (hbody : ∀ (cdv : Value) (A : Around) (outer : List Env) (s : Shared) (H : Hp) (E : XK), (A.deeper (envOfC qual scope s.heap.objs.size f cdv)).guards = some [] → Room k (A.deeper (envOfC qual scope s.heap.objs.size f cdv)) → PSs (cxOf CX0 P w K mg base N qual scope f cdv A outer s H E) body (tS C E fb)) :
    OkG P w K mg base C (k + 1) f ps.length (dFun N.length fb) := by
  refine ⟨fd, ps, ⟨fun vs H Q E h => ?_, fun A outer s H us vs Q E hgd hr e0 hbt r h => ?_⟩, F.kp, hb⟩
  · obtain ⟨M, S0, ds, hl, _, r, _⟩ := h
    rw [← r.1, hl]
  · obtain ⟨M, S0, ds, hl, sm, rl, g⟩ := h
    refine call_at F S (by rw [← rl.1, hl]) hr e0 hbt r fun cdv hr' => ⟨tS C E fb, hbody cdv A outer s H E hgd hr', M, startG N.length ds, S0, startG_rep (by rw [hl]; exact len_ok hle) rl, sm, ?_⟩
    have g : GoodE C M (endD (fb (startG N.length ds) S0)) Q E := g
    cases e : fb (startG N.length ds) S0 with
    | nx Γ S' => rw [e] at g; exact fun M' σ' H' l _ s => g M' .non H' l s .non
    | rt d S' => rw [e] at g; exact g
    | bk Γ S' => rw [e] at g; exact g.elim
    | ct Γ S' => rw [e] at g; exact g.elim
    | exc c fs S' => rw [e] at g; exact fun M' σ' c' d H' l s r => g M' c' d H' l s r
    | bad => rw [e] at g; exact g.elim
end
section
variable {X : Cx} {C : Cfg} {W : XK} {k n : Nat} {f : Addr} {fn : List D → Sto → Res D} {x : Str} {p pos : Pos} {e : Expr} {es : List Expr} {fr : DA} {fd : FuncData} {ps : List Str} {sp : Sp} {t : TA} {E : XK}
theorem pe_callG (F : FnOkG X.prog X.w X.K X.mg X.base k f fd ps sp) (hgd : X.A.guards = some []) (hr : Room k X.A) (hg : Gl X x) (hm : X.mg x = some (.ref f)) (hk : PySem.W.keepIn X.K (.ref f) = true) (hb : Binds X.K fd ps []) (hx : Passes CX0 X E) (ha : PA X (e :: es) t) (hdb : (x == ("__debug__" : Str)) = false := by decide) (he : starEach (e :: es) X.env = (false, eval e X.env) :: starEach es X.env := by rfl) (hpl : (backTo pos (starEach es X.env)).any (·.1) = false := by rfl) :
    PE X (.Call (.Name x p) (e :: es) [] pos) (tCall sp [] E t) := by
  refine ⟨fun pins s σ H Q I h => ?_⟩; refine wpAny_Call_Name_kw (ld_glob I hg hm ?_ hdb)
  refine PySem.W.callWith_K (h₀ := X.base) I.ok.mod.kin hk (thn (ha.run pos pins s σ H _ I h) fun us s1 ⟨vs, H1, I1, r, q⟩ => ⟨I1.kIn, ?_⟩) he hpl; show wpAny _ _ (call (.ref f) us) _ _ _
  have q : sp (vs ++ []) H1 Q E := q
  rw [List.append_nil] at q
  have hl : (us ++ []).length = ps.length := by rw [List.append_nil, ← r.length]; exact F.len _ _ _ _ q
  have hb' := hb s1 us I1.kIn hl
  rw [List.append_nil] at hb'
  refine wpAny_call (codeAny_mono (F.run X.A X.stack s1 H1 us vs Q E hgd hr I1.env0 hb' r q) fun r s' hq => ?_)
  cases r with
  | error e => exact hx pins σ H1 s1 e s' I1 hq
  | ok fl =>
    cases fl with
    | ret u => exact I1.after hq
    | next => exact False.elim hq
    | brk => exact False.elim hq
    | cont => exact False.elim hq
theorem zcallG (F : OkG X.prog X.w X.K X.mg X.base C k f n fn) (hgd : X.A.guards = some []) (hr : Room k X.A) (hg : Gl X x) (hm : X.mg x = some (.ref f)) (ha : PA X (e :: es) (tA C W fr)) (hdb : (x == ("__debug__" : Str)) = false := by decide) (he : starEach (e :: es) X.env = (false, eval e X.env) :: starEach es X.env := by rfl)
    (hpl : (backTo pos (starEach es X.env)).any (·.1) = false := by rfl) : PE X (.Call (.Name x p) (e :: es) [] pos) (tE C W (dCall n fn fr)) := by
  obtain ⟨fd, ps, F, hk, hb⟩ := F
  exact (pe_callG (E := W) F hgd hr hg hm hk hb pass0 ha hdb he hpl).by fun σ H Q ⟨M, Γ, S, g, s, h⟩ => runA g s h fun M1 ds S1 vs H1 l1 s1 r1 h1 => by
    obtain ⟨g1, h1⟩ := guard_ok h1
    rw [List.append_nil]
    exact ⟨M1, S1, ds, lenIs_ok g1, s1, r1, h1⟩
end
end Pd

/-! text * n, int(text); what the head says of classes of exceptions -/
namespace Pd
open L2 PySem PySem.Spec PyProof.Rows
section
variable {X : Cx} {C : Cfg} {W : XK}
def fMulS : D → D → Sto → Res D := fun a b S => match a, b with
  | .str x, .int (.ofNat k) => guard (Nat.ble x.length 16 && Nat.ble k 1048576) (.ok (.str (Txt.mul x (.ofNat k))) S)
  | _, _ => .bad
theorem op_mulS : OpR X (binaryOp .Mult) (fun x y H Q => ∃ a k, x = .str a ∧ y = .int (.ofNat k) ∧ a.length ≤ 16 ∧ k ≤ 1048576 ∧ Q (.str (Txt.mul a (.ofNat k))) H) := by
  intro pins s σ H x y u w Q I rx ry h
  obtain ⟨a, k, rfl, rfl, h1, h2, q⟩ := h
  obtain ⟨t, rfl⟩ := rx
  obtain ⟨t', rfl⟩ := ry
  refine PySem.W.KXi.mul rfl h1 (by have := Int.natCast_nonneg k; show -(2 ^ 63) ≤ ((k : Nat) : Int); omega) (by show ((k : Nat) : Int) ≤ _; omega) fun t' j _ _ => ⟨.str _, H, I.tok _, ⟨_, rfl⟩, q⟩
theorem oMulS : OpD X C W (binaryOp .Mult) fMulS := by
  refine ⟨_, op_mulS, fun M S H a b x y Q s ra rb q => ?_⟩
  unfold fMulS at q
  split at q
  · cases ra; cases rb
    obtain ⟨g, q⟩ := guard_ok q
    obtain ⟨g1, g2⟩ := Bool.and_eq_true_iff.mp g
    exact ⟨_, _, rfl, rfl, Nat.le_of_ble_eq_true g1, Nat.le_of_ble_eq_true g2, q.ok s (.str _)⟩
  · exact q.elim
def gIntS : List D → Sto → Res D := fun ds S => match ds with
  | [.str a] => (match PySem.intText? a with
    | some n => guard (Nat.ble a.length 640) (.ok (.int n) S)
    | none => .bad)
  | _ => .bad
theorem cIntS : CaD X C W (.type "int") gIntS := by
  refine ⟨_, call_int_str, fun M S H ds vs Q s r q => ?_⟩
  unfold gIntS at q
  split at q
  · rename_i a
    split at q
    · rename_i n e
      obtain ⟨g, q⟩ := guard_ok q
      obtain ⟨v, rfl, rd⟩ := one_of r
      cases rd
      exact ⟨a, n, rfl, e, Nat.le_of_ble_eq_true g, q.ok s (.int _)⟩
    · exact q.elim
  · exact q.elim
end
/-! ### classes of exceptions, as the head says them -/
def XsP (K : PySem.W.Frag) (C : Cfg) (xs : List (Nat × Bool)) : Prop := ∀ p ∈ xs, XeC K (C.ga p.1) p.2
def xsB (K : PySem.W.Frag) (g : Nat → Addr) : List (Nat × Bool) → Bool
  | [] => true
  | p :: r => (match xeB K (g p.1) p.2 with
    | true => xsB K g r
    | false => false)
theorem xsB_ok {K : PySem.W.Frag} {C : Cfg} : ∀ {xs : List (Nat × Bool)}, xsB K C.ga xs = true → XsP K C xs
  | [], _ => fun _ h => nomatch h
  | p :: r, h => by
    unfold xsB at h
    split at h
    · rename_i e
      intro q hq
      rcases (List.mem_cons.mp hq) with rfl | hq
      · exact xeB_ok e
      · exact xsB_ok h q hq
    · cases h
theorem XsP.at {K : PySem.W.Frag} {C : Cfg} {xs : List (Nat × Bool)} (h : XsP K C xs) {c : Nat} {v : Bool} (e : lookB xs c = some v) : XeC K (C.ga c) v := h _ (lookB_mem e)
def subX {α : Type} (f : α → Nat) (xs : List (Nat × Bool)) : List α → Bool
  | [] => true
  | p :: r => (match lookB xs (f p) with
    | some _ => subX f xs r
    | none => false)
theorem subX_ok {α : Type} {f : α → Nat} {xs : List (Nat × Bool)} {K : PySem.W.Frag} {C : Cfg} (hx : XsP K C xs) : ∀ {l : List α}, subX f xs l = true → ∀ p ∈ l, ∃ v, XeC K (C.ga (f p)) v
  | [], _ => fun _ h => nomatch h
  | p :: r, h => by
    unfold subX at h
    split at h
    · rename_i v e
      intro q hq
      rcases (List.mem_cons.mp hq) with rfl | hq
      · exact ⟨v, hx.at e⟩
      · exact subX_ok hx h q hq
    · cases h
def kitB (K : PySem.W.Frag) (g : Nat → Addr) (cv : Value) : List (Nat × Bool) → Bool
  | [] => true
  | p :: r => (match obt1 (PySem.W.kitOne K (.ref (g p.1)) cv) p.2 with
    | true => kitB K g cv r
    | false => false)
theorem kitB_ok {K : PySem.W.Frag} {C : Cfg} {cv : Value} : ∀ {l : List (Nat × Bool)}, kitB K C.ga cv l = true → ∀ p ∈ l, PySem.W.kitOne K (.ref (C.ga p.1)) cv = some p.2
  | [], _ => fun _ h => nomatch h
  | p :: r, h => by
    unfold kitB at h
    split at h
    · rename_i e
      intro q hq
      rcases (List.mem_cons.mp hq) with rfl | hq
      · exact obt1_ok e
      · exact kitB_ok h q hq
    · cases h
theorem kitT_ok {K : PySem.W.Frag} {C : Cfg} {cv : Value} {xs tb : List (Nat × Bool)} (hx : XsP K C xs) (e : subX (·.1) xs tb = true) (h : kitB K C.ga cv tb = true) : KitT K C tb cv := fun p hp => ⟨subX_ok hx e p hp, kitB_ok h p hp⟩
def xaB (K : PySem.W.Frag) (g : Nat → Addr) (f : Str) : List Nat → Bool
  | [] => true
  | c :: r => (match xnB K (g c) f with
    | true => xaB K g f r
    | false => false)
theorem xaB_ok {K : PySem.W.Frag} {C : Cfg} {f : Str} : ∀ {l : List Nat}, xaB K C.ga f l = true → ∀ c ∈ l, PySem.W.findIn K (.ref (C.ga c)) f = some none
  | [], _ => fun _ h => nomatch h
  | p :: r, h => by
    unfold xaB at h
    split at h
    · rename_i e
      intro q hq
      rcases (List.mem_cons.mp hq) with rfl | hq
      · exact He.eqO_ok e
      · exact xaB_ok h q hq
    · cases h
def XaP (K : PySem.W.Frag) (C : Cfg) (f : Str) (cs : List Nat) : Prop := ∀ c ∈ cs, (∃ v, XeC K (C.ga c) v) ∧ PySem.W.findIn K (.ref (C.ga c)) f = some none
theorem xaP_ok {K : PySem.W.Frag} {C : Cfg} {f : Str} {xs : List (Nat × Bool)} {cs : List Nat} (hx : XsP K C xs) (e : subX (fun c => c) xs cs = true) (h : xaB K C.ga f cs = true) : XaP K C f cs := fun p hp => ⟨subX_ok hx e p hp, xaB_ok h p hp⟩
/-- such an __init__ as a def -/
def OkX (P : Program) (w : World) (K : PySem.W.Frag) (mg : Str → Option Value) (base : Heap) (C : Cfg) (k : Nat) (a : Addr) (c : Nat) (f : Str) (fe : DE) : Prop :=
  ∃ (fd : FuncData) (ps : List Str), FnOk P w K mg base CX0 k a fd ps (spI C c f fe) ∧ Binds K fd ps []
section
variable {X : Cx} {C : Cfg} {W : XK} {e : Expr} {es : List Expr} {f x : Str} {p pos : Pos} {c j : Nat} {fI : Addr} {k : Nat} {v : Bool} {fe : DE} {fa : DA}
theorem xmxz (hK : X.K = C.K) (T : XeC X.K (C.ga c) v) (TI : XeI X.K (C.ga c) fI v) (hj : C.an[j]? = some f) (F1 : OkX X.prog X.w X.K X.mg X.base C k fI c f fe) (hr : Room (k + 1) X.A) (hg : Gl X x) (hm : X.mg x = some (.ref (C.ga c))) (ha : PA X (e :: es) (tA C W fa)) (hdb : (x == ("__debug__" : Str)) = false := by decide) (he : starEach (e :: es) X.env = (false, eval e X.env) :: starEach es X.env := by rfl) (hpl : (backTo pos (starEach es X.env)).any (·.1) = false := by rfl) :
    PE X (.Call (.Name x p) (e :: es) [] pos) (tE C W (dXn c j fe fa)) := by
  obtain ⟨fd, ps, F, hb⟩ := F1
  exact xmx hK T TI hj F hr hb hg hm ha hdb he hpl
end
end Pd

namespace Lw
open L2 PySem PySem.Spec PyProof.Rows Pd
def AN : List Str := (["name", "word", "path", "place", "limit", "number"] : List Str)
def CC (K : PySem.W.Frag) (w : World) : Cfg := ⟨K, w, fun i => He.ga K (GN.getD i ""), AN⟩
structure Ck (K : PySem.W.Frag) (w : World) : Prop where
  tt : True
  sysd : SysD K
  xs : XsP K (CC K w) [(12, true), (11, true), (10, true), (9, true), (8, true), (17, true), (16, true), (15, true), (14, true), (13, true), (19, true), (18, true), (23, false), (22, false), (21, false)]
  x0_NoRoom : PySem.W.excIn K (He.ga K "NoRoom") (xTail true) (xNew true) = true
  x0_BadPaper : PySem.W.excIn K (He.ga K "BadPaper") (xTail true) (xNew true) = true
  x0_BadChoice : PySem.W.excIn K (He.ga K "BadChoice") (xTail true) (xNew true) = true
  xi_TwiceTold : XeI K (He.ga K "TwiceTold") (He.ma K (He.ga K "TwiceTold") "__init__") true
  xi_BadName : XeI K (He.ga K "BadName") (He.ma K (He.ga K "BadName") "__init__") true
  xi_BadData : XeI K (He.ga K "BadData") (He.ma K (He.ga K "BadData") "__init__") true
  xi_BadBook : XeI K (He.ga K "BadBook") (He.ma K (He.ga K "BadBook") "__init__") true
  xi_BadStart : XeI K (He.ga K "BadStart") (He.ma K (He.ga K "BadStart") "__init__") true
  xi_BadMachine : XeI K (He.ga K "BadMachine") (He.ma K (He.ga K "BadMachine") "__init__") true
  xi_BadMeaning : XeI K (He.ga K "BadMeaning") (He.ma K (He.ga K "BadMeaning") "__init__") true
  xi_TooLong : XeI K (He.ga K "TooLong") (He.ma K (He.ga K "TooLong") "__init__") true
  xi_BadText : XeI K (He.ga K "BadText") (He.ma K (He.ga K "BadText") "__init__") true
  xi_NotThere : XeI K (He.ga K "NotThere") (He.ma K (He.ga K "NotThere") "__init__") false
  xi_UnknownWorld : XeI K (He.ga K "UnknownWorld") (He.ma K (He.ga K "UnknownWorld") "__init__") false
  xi_UnknownName : XeI K (He.ga K "UnknownName") (He.ma K (He.ga K "UnknownName") "__init__") false
  xt_BadName : KitT K (CC K w) xt_BadName (.ref (He.ga K "BadName"))
  xt_NoRoom : KitT K (CC K w) xt_NoRoom (.ref (He.ga K "NoRoom"))
  xt_BadPaper : KitT K (CC K w) xt_BadPaper (.ref (He.ga K "BadPaper"))
  xt_BadChoice : KitT K (CC K w) xt_BadChoice (.ref (He.ga K "BadChoice"))
  xt_BadMachine : KitT K (CC K w) xt_BadMachine (.ref (He.ga K "BadMachine"))
  xt_BadMeaning : KitT K (CC K w) xt_BadMeaning (.ref (He.ga K "BadMeaning"))
  xt_TwiceTold : KitT K (CC K w) xt_TwiceTold (.ref (He.ga K "TwiceTold"))
  xt_BadData : KitT K (CC K w) xt_BadData (.ref (He.ga K "BadData"))
  xt_BadBook : KitT K (CC K w) xt_BadBook (.ref (He.ga K "BadBook"))
  xt_BadStart : KitT K (CC K w) xt_BadStart (.ref (He.ga K "BadStart"))
  xt_TooLong : KitT K (CC K w) xt_TooLong (.ref (He.ga K "TooLong"))
  xt_BadText : KitT K (CC K w) xt_BadText (.ref (He.ga K "BadText"))
  xt_NotThere : KitT K (CC K w) xt_NotThere (.ref (He.ga K "NotThere"))
  xt_UnknownWorld : KitT K (CC K w) xt_UnknownWorld (.ref (He.ga K "UnknownWorld"))
  xt_UnknownName : KitT K (CC K w) xt_UnknownName (.ref (He.ga K "UnknownName"))
  xt_ValueError : KitT K (CC K w) xt_ValueError (.type "ValueError")
  xt_HostError : KitT K (CC K w) xt_HostError (.ref (He.ga K "HostError"))
  xt_LookupError : KitT K (CC K w) xt_LookupError (.type "LookupError")
  xt_NameMissing : KitT K (CC K w) xt_NameMissing (.ref (He.ga K "NameMissing"))
  xa_name : XaP K (CC K w) "name" [11, 12, 21]
  xa_word : XaP K (CC K w) "word" [13, 14, 15]
  xa_path : XaP K (CC K w) "path" [16, 17]
  xa_number : XaP K (CC K w) "number" [22, 23]
  xa_limit : XaP K (CC K w) "limit" [19]
  xa_place : XaP K (CC K w) "place" [18]
theorem an_nd : AN.Nodup := by decide +kernel
def den12 : DS := (sSeq (sSet (dC (.int 11)) 1) (sSeq (sFor (iAny (dVar 0)) (gN 2) (sSet (d2 fMod (dCB gInt (aCons (d2 fAdd (d2 fAdd (d2 fMul (dVar 1) (dC (.int 69069))) (d2 fMul (dVar 2) (dC (.int 31)))) (dC (.int 5))) aNil)) (dC (.int 2147483629))) 1)) (sSeq (sSet (dLc keep (iAny (dVar 0)) (gN 2) dYes (dCB gAbs (aCons (dVar 2) aNil)) [2]) 3) (sRet (dDisp false (pCons (dC (.str (⟨#[99, 101, 108, 108, 115]⟩ : Str))) (dLc keep (iNo (aBind (aCons (dCB gLen (aCons (dVar 3) aNil)) aNil) rng1)) (gN 4) dYes (d2 fIx (dVar 3) (d2 fSub (d2 fSub (dCB gLen (aCons (dVar 3) aNil)) (dC (.int 1))) (dVar 4))) [4]) (pCons (dC (.str (⟨#[108, 101, 102, 116]⟩ : Str))) (dC (.int 1)) (pCons (dC (.str (⟨#[109, 105, 120, 101, 100]⟩ : Str))) (dVar 1) (pCons (dC (.str (⟨#[116, 117, 114, 110]⟩ : Str))) (dC (.int 0)) pNil)))))))))
def f12 : List D → Sto → Res D := dFun 5 den12
def den13 : DS := (sSeq (sIf (t2 fLt (dVar 1) (dC (.int 2))) (sRet (dC (.int 0))) sNil) (sSeq (sSet (d2 fIx (dVar 0) (dC (.str (⟨#[99, 101, 108, 108, 115]⟩ : Str)))) 2) (sSeq (loopW (dAnd (t2 fLt (d2 fIx (dVar 0) (dC (.str (⟨#[108, 101, 102, 116]⟩ : Str)))) (dC (.int 2))) (t2 fGt (dCB gLen (aCons (dVar 2) aNil)) (dC (.int 0)))) (sPut (dBM isL gPop (dVar 2) aNil) (dVar 0) (dC (.str (⟨#[108, 101, 102, 116]⟩ : Str)))) 100000) (sSeq (sSet (d2 fIx (dVar 0) (dC (.str (⟨#[108, 101, 102, 116]⟩ : Str)))) 3) (sSeq (sIf (t2 fGt (dVar 3) (dC (.int 1))) (sSeq (sPut (d2 fDiv (dVar 3) (dVar 1)) (dVar 0) (dC (.str (⟨#[108, 101, 102, 116]⟩ : Str)))) (sRet (d2 fMod (dCB gInt (aCons (dVar 3) aNil)) (dVar 1)))) sNil) (sSeq (sPut (d2 fAdd (d2 fIx (dVar 0) (dC (.str (⟨#[116, 117, 114, 110]⟩ : Str)))) (dC (.int 1))) (dVar 0) (dC (.str (⟨#[116, 117, 114, 110]⟩ : Str)))) (sSeq (sSet (d2 fIx (dVar 0) (dC (.str (⟨#[116, 117, 114, 110]⟩ : Str)))) 4) (sSeq (sSet (d2 fMod (dCB gInt (aCons (d2 fAdd (d2 fIx (dVar 0) (dC (.str (⟨#[109, 105, 120, 101, 100]⟩ : Str)))) (d2 fMul (dVar 4) (dC (.int 104729)))) aNil)) (dC (.int 998244353))) 5) (sSeq (sSet (d2 fMod (dCB gInt (aCons (d2 fAdd (d2 fMul (dVar 5) (dVar 5)) (d2 fMul (dVar 4) (dC (.int 17)))) aNil)) (dC (.int 2147483647))) 5) (sRet (d2 fMod (dCB gInt (aCons (d2 fDiv (dVar 5) (dC (.int 16))) aNil)) (dVar 1))))))))))))
def f13 : List D → Sto → Res D := dFun 6 den13
def fe1 : DE := (dVar 1)
def fe0 : DE := (dVar 1)
def fe6 : DE := (dCB gTuple (aCons (dVar 1) aNil))
def fe5 : DE := (dCB gTuple (aCons (dVar 1) aNil))
def fe4 : DE := (dVar 1)
def fe3 : DE := (dVar 1)
def fe2 : DE := (dVar 1)
def fe8 : DE := (dVar 1)
def fe7 : DE := (dVar 1)
def fe11 : DE := (dVar 1)
def fe10 : DE := (dVar 1)
def fe9 : DE := (dVar 1)
def den16 : DS := (sSeq (sSet (dLst (aCons (dX0 8) (aCons (dX0 9) (aCons (dX0 10) (aCons (dXn 11 0 fe0 (aCons (dVar 0) aNil)) (aCons (dXn 12 0 fe1 (aCons (dVar 0) aNil)) aNil)))))) 3) (sSeq (sSet (d2 fAdd (dVar 3) (dLst (aCons (dXn 13 1 fe2 (aCons (dVar 0) aNil)) (aCons (dXn 14 1 fe3 (aCons (dVar 0) aNil)) (aCons (dXn 15 1 fe4 (aCons (dVar 0) aNil)) (aCons (dXn 16 2 fe5 (aCons (dVar 2) aNil)) (aCons (dXn 17 2 fe6 (aCons (dVar 2) aNil)) aNil))))))) 3) (sSeq (sSet (d2 fAdd (dVar 3) (dLst (aCons (dXn 18 3 fe7 (aCons (dVar 1) aNil)) (aCons (dXn 19 4 fe8 (aCons (dVar 1) aNil)) aNil)))) 3) (sRet (d2 fAdd (dVar 3) (dLst (aCons (dXn 21 0 fe9 (aCons (dVar 0) aNil)) (aCons (dXn 22 5 fe10 (aCons (dVar 1) aNil)) (aCons (dXn 23 5 fe11 (aCons (dVar 1) aNil)) aNil)))))))))
def f16 : List D → Sto → Res D := dFun 4 den16
def den14 : DS := (sSeq (sSet (dLst (aCons (dIsX xt_BadChoice (dVar 0)) (aCons (dIsX xt_BadPaper (dVar 0)) (aCons (dIsX xt_NoRoom (dVar 0)) (aCons (dIsX xt_BadName (dVar 0)) aNil))))) 1) (sSeq (sSet (d2 fAdd (dVar 1) (dLst (aCons (dIsX xt_TwiceTold (dVar 0)) (aCons (dIsX xt_BadMeaning (dVar 0)) (aCons (dIsX xt_BadMachine (dVar 0)) aNil))))) 1) (sSeq (sSet (d2 fAdd (dVar 1) (dLst (aCons (dIsX xt_BadStart (dVar 0)) (aCons (dIsX xt_BadBook (dVar 0)) (aCons (dIsX xt_BadData (dVar 0)) aNil))))) 1) (sSeq (sSet (d2 fAdd (dVar 1) (dLst (aCons (dIsX xt_BadText (dVar 0)) (aCons (dIsX xt_TooLong (dVar 0)) aNil)))) 1) (sRet (d2 fAdd (dVar 1) (dLst (aCons (dIsX xt_UnknownName (dVar 0)) (aCons (dIsX xt_UnknownWorld (dVar 0)) (aCons (dIsX xt_NotThere (dVar 0)) aNil))))))))))
def f14 : List D → Sto → Res D := dFun 2 den14
def den15 : DS := (sSeq (sSet (dLst (aCons (dIsX xt_HostError (dVar 0)) (aCons (dIsX xt_ValueError (dVar 0)) aNil))) 1) (sRet (d2 fAdd (dVar 1) (dLst (aCons (dIsX xt_NameMissing (dVar 0)) (aCons (dIsX xt_LookupError (dVar 0)) aNil))))))
def f15 : List D → Sto → Res D := dFun 2 den15
def den17 : DS := (sSeq (sSet (dLst (aCons (dXf [11, 12, 21] 0 (d2 fIx (dVar 0) (dC (.int 3)))) (aCons (dXf [11, 12, 21] 0 (d2 fIx (dVar 0) (dC (.int 4)))) (aCons (dXf [13, 14, 15] 1 (d2 fIx (dVar 0) (dC (.int 5)))) (aCons (dXf [13, 14, 15] 1 (d2 fIx (dVar 0) (dC (.int 6)))) (aCons (dXf [13, 14, 15] 1 (d2 fIx (dVar 0) (dC (.int 7)))) (aCons (dXf [11, 12, 21] 0 (d2 fIx (dVar 0) (dC (.int 12)))) aNil))))))) 4) (sSeq (sIf (dOr (t2 fNeX (dCB gRepr (aCons (dVar 4) aNil)) (dCB gRepr (aCons (d2 fMul (dLst (aCons (dVar 1) aNil)) (dC (.int 6))) aNil))) (t2 fNeX (dCB gRepr (aCons (dLst (aCons (dXf [16, 17] 2 (d2 fIx (dVar 0) (dC (.int 8)))) (aCons (dXf [16, 17] 2 (d2 fIx (dVar 0) (dC (.int 9)))) aNil))) aNil)) (dCB gRepr (aCons (d2 fMul (dLst (aCons (dCB gTuple (aCons (dVar 3) aNil)) aNil)) (dC (.int 2))) aNil)))) (sRet (dC (.bl false))) sNil) (sSeq (sSet (dLst (aCons (dXf [18] 3 (d2 fIx (dVar 0) (dC (.int 10)))) (aCons (dXf [19] 4 (d2 fIx (dVar 0) (dC (.int 11)))) (aCons (dXf [22, 23] 5 (d2 fIx (dVar 0) (dC (.int 13)))) (aCons (dXf [22, 23] 5 (d2 fIx (dVar 0) (dC (.int 14)))) aNil))))) 5) (sRet (d2 fEqX (dCB gRepr (aCons (dVar 5) aNil)) (dCB gRepr (aCons (d2 fMul (dLst (aCons (dVar 2) aNil)) (dC (.int 4))) aNil)))))))
def f17 : List D → Sto → Res D := dFun 6 den17
def den18 : DS := (sSeq (sSet (dCall 1 f12 (aCons (dVar 0) aNil)) 1) (sSeq (sSet (dCB gIntS (aCons (d2 fAdd (dC (.str (⟨#[49]⟩ : Str))) (d2 fMulS (dC (.str (⟨#[48]⟩ : Str))) (dC (.int 30)))) aNil)) 2) (sSeq (sFor (iNo (aBind (aCons (dC (.int 2)) aNil) rng1)) (gN 3) (sSeq (sSet (d2 fIx (dLst (aCons (dC (.str (⟨#[]⟩ : Str))) (aCons (dC (.str (⟨#[120]⟩ : Str))) (aCons (dC (.str (⟨#[110, 111, 32, 115, 117, 99, 104, 32, 110, 97, 109, 101]⟩ : Str))) (aCons (dC .non) (aCons (d2 fMulS (dC (.str (⟨#[120]⟩ : Str))) (dC (.int 100))) (aCons (dTup (aCons (dC (.str (⟨#[97]⟩ : Str))) aNil)) (aCons (dC (.int 0)) (aCons (dLst (aCons (dC (.str (⟨#[97]⟩ : Str))) (aCons (dFrz (dNewD false)) aNil))) aNil))))))))) (dCall 2 f13 (aCons (dVar 1) (aCons (dC (.int 8)) aNil)))) 4) (sSeq (sSet (d2 fIx (dLst (aCons (dC (.int 0)) (aCons (dC (.int 1)) (aCons (dC (.int 7)) (aCons (dC (.int 200)) (aCons (dVar 2) (aCons (dC (.int (-1))) (aCons (dC .non) aNil)))))))) (dCall 2 f13 (aCons (dVar 1) (aCons (dC (.int 7)) aNil)))) 5) (sSeq (sSet (d2 fIx (dLst (aCons (dLst (aCons (dC (.str (⟨#[97]⟩ : Str))) (aCons (dC (.str (⟨#[98]⟩ : Str))) aNil))) (aCons (dLst aNil) (aCons (dTup (aCons (dC (.str (⟨#[97]⟩ : Str))) aNil)) (aCons (dLst (aCons (dC (.int 0)) (aCons (dC (.int 1)) (aCons (dC (.int 0)) aNil)))) (aCons (dTup (aCons (dTup (aCons (dC (.str (⟨#[120]⟩ : Str))) (aCons (dC (.str (⟨#[121]⟩ : Str))) aNil))) aNil)) aNil)))))) (dCall 2 f13 (aCons (dVar 1) (aCons (dC (.int 5)) aNil)))) 6) (sSeq (sSet (dCall 3 f16 (aCons (dVar 4) (aCons (dVar 5) (aCons (dVar 6) aNil)))) 7) (sSeq (sFor (iNo (aBind (aCons (dCB gLen (aCons (dVar 7) aNil)) aNil) rng1)) (gN 8) (sSeq (sIf (t2 fNeX (dCall 1 f14 (aCons (d2 fIx (dVar 7) (dVar 8)) aNil)) (dLc frz (iNo (aBind (aCons (dCB gLen (aCons (dVar 7) aNil)) aNil) rng1)) (gN 9) dYes (d2 fEqX (dVar 9) (dVar 8)) [9])) (sRet (dC (.bl false))) sNil) (sIf (t2 fNeX (dCall 1 f15 (aCons (d2 fIx (dVar 7) (dVar 8)) aNil)) (dLst (aCons (d2 fLt (dVar 8) (dC (.int 12))) (aCons (d2 fLt (dVar 8) (dC (.int 12))) (aCons (d2 fGe (dVar 8) (dC (.int 12))) (aCons (d2 fGe (dVar 8) (dC (.int 12))) aNil)))))) (sRet (dC (.bl false))) sNil))) (sIf (dOr (t2 fNeX (dCB gLen (aCons (dVar 7) aNil)) (dC (.int 15))) (dNot (dTr (dCall 4 f17 (aCons (dVar 7) (aCons (dVar 4) (aCons (dVar 5) (aCons (dVar 6) aNil)))))))) (sRet (dC (.bl false))) sNil))))))) (sRet (dC (.bl true))))))
def f18 : List D → Sto → Res D := dFun 10 den18
section
variable {P : Program} {w : World} {K : PySem.W.Frag} {mg : Str → Option Value} {base h0 : Heap}
theorem sc12 : FnScope ["_law_script", "_law_mixed", "_law_cell", "_law_cells", "_law_k"] ["_law_script"] (defScope s12) := ⟨rfl, rfl, rfl, by decide +kernel, rfl, by decide +kernel, by decide +kernel⟩
theorem ok12 (KX : K.In h0) (G : h0.Ns mainGlobals mg) (c : He.SaysD fa fn K) (ck : Ck K w) : OkF P w K mg base (CC K w) 1 (He.ga K "_law_source") 1 f12 := by
  obtain ⟨fd, F⟩ := c.def_ 0 (d := dd12) rfl
  have sc := sc12
  refine okf (N := ["_law_script", "_law_mixed", "_law_cell", "_law_cells", "_law_k"]) (ps := ["_law_script"]) (k := 0) (fb := den12) F sc rfl (FunD.bindsN F fun _ _ _ _ _ _ us hl => match us, hl with | [_], _ => rfl) fun cdv A outer s H E hr => ?_
  exact PSs.nox (ycons (yset sc.nd (i := 1) rfl (.inl rfl) xint) (ycons (yfor PassesOwn.never rfl (wany rfl (xv 0)) (vs := [2]) (zname (i := 2) sc.nd rfl (.inl rfl) (by decide)) (yone (yset sc.nd (i := 1) rfl (.inl rfl) (xbin oMod (xct cInt rfl (He.free_ok KX G (c.fact 0 rfl)) rfl (xacons (xbin (oAdd rfl) (xbin (oAdd rfl) (xbin oMul (xv 1) xint) (xbin oMul (xv 2) xint)) xint) xanil)) xint)))) (ycons (yset sc.nd (i := 3) rfl (.inr rfl) (xlc fin_keep rfl sc.nd (wany rfl (xv 0)) (own := [("_law_cell", 2)]) (blk_of (by kernel_rfl)) (uname (i := 2) (fun _ _ _ _ _ => pg_name sc.nd rfl (.inl rfl)) (by decide)) (fun _ _ _ _ _ => xtnil) (fun _ _ _ _ _ => (xcb cAbs rfl (He.free_ok KX G (c.fact 1 rfl)) rfl (xacons (xv 2) xanil))))) (yone (yret (xdisp false hr.units0 (ppcons (xstr rfl) (xlc fin_keep rfl sc.nd (ItD.u (wrng1 rfl (He.free_ok KX G (c.fact 3 rfl)) (xacons (xcb (cLen rfl) rfl (He.free_ok KX G (c.fact 2 rfl)) rfl (xacons (xv 3) xanil)) xanil))) (own := [("_law_k", 4)]) (blk_of (by kernel_rfl)) (uname (i := 4) (fun _ _ _ _ _ => pg_name sc.nd rfl (.inl rfl)) (by decide)) (fun _ _ _ _ _ => xtnil) (fun _ _ _ _ _ => (xix rfl rfl hr.units1 (xv 3) (xbin oSub (xbin oSub (xcb (cLen rfl) rfl (He.free_ok KX G (c.fact 2 rfl)) rfl (xacons (xv 3) xanil)) xint) (xv 4)) (by intro _ _; rfl)))) (ppcons (xstr rfl) xint (ppcons (xstr rfl) (xv 1) (ppcons (xstr rfl) xint ppnil))))))))))
theorem sc13 : FnScope ["_law_source_here", "_law_many", "_law_cells", "_law_left", "_law_turn", "_law_mixed"] ["_law_source_here", "_law_many"] (defScope s13) := ⟨rfl, rfl, rfl, by decide +kernel, rfl, by decide +kernel, by decide +kernel⟩
theorem ok13 (KX : K.In h0) (G : h0.Ns mainGlobals mg) (c : He.SaysD fa fn K) (ck : Ck K w) : OkF P w K mg base (CC K w) 1 (He.ga K "_law_pick") 2 f13 := by
  obtain ⟨fd, F⟩ := c.def_ 1 (d := dd13) rfl
  have sc := sc13
  refine okf (N := ["_law_source_here", "_law_many", "_law_cells", "_law_left", "_law_turn", "_law_mixed"]) (ps := ["_law_source_here", "_law_many"]) (k := 0) (fb := den13) F sc rfl (FunD.bindsN F fun _ _ _ _ _ _ us hl => match us, hl with | [_, _], _ => rfl) fun cdv A outer s H E hr => ?_
  exact PSs.nox (ycons (yif (xtcmp oLt (xv 1) xint (by rfl)) (yone (yret xint)) ynil) (ycons (yset sc.nd (i := 2) rfl (.inl rfl) (xix rfl rfl hr.units1 (xv 0) (xstr rfl) (by intro _ _; rfl))) (ycons (ywhile 100000 PassesOwn.never (PW.pt (xand (xtcmp oLt (xix rfl rfl hr.units1 (xv 0) (xstr rfl) (by intro _ _; rfl)) xint (by rfl)) (pw_and1 (xtcmp oGt (xcb (cLen rfl) rfl (He.free_ok KX G (c.fact 2 rfl)) rfl (xacons (xv 2) xanil)) xint (by rfl))))) (yone (yput hr.units1 (xbm0 rfl PySem.F.plainAttrs_list PySem.F.slot_list_pop PySem.F.type_list_pop mPop ty_lst (xv 2)) (xv 0) (xstr rfl)))) (ycons (yset sc.nd (i := 3) rfl (.inl rfl) (xix rfl rfl hr.units1 (xv 0) (xstr rfl) (by intro _ _; rfl))) (ycons (yif (xtcmp oGt (xv 3) xint (by rfl)) (ycons (yput hr.units1 (xbin oDiv (xv 3) (xv 1)) (xv 0) (xstr rfl)) (yone (yret (xbin oMod (xct cInt rfl (He.free_ok KX G (c.fact 0 rfl)) rfl (xacons (xv 3) xanil)) (xv 1))))) ynil) (ycons (yput hr.units1 (xbin (oAdd rfl) (xix rfl rfl hr.units1 (xv 0) (xstr rfl) (by intro _ _; rfl)) xint) (xv 0) (xstr rfl)) (ycons (yset sc.nd (i := 4) rfl (.inl rfl) (xix rfl rfl hr.units1 (xv 0) (xstr rfl) (by intro _ _; rfl))) (ycons (yset sc.nd (i := 5) rfl (.inl rfl) (xbin oMod (xct cInt rfl (He.free_ok KX G (c.fact 0 rfl)) rfl (xacons (xbin (oAdd rfl) (xix rfl rfl hr.units1 (xv 0) (xstr rfl) (by intro _ _; rfl)) (xbin oMul (xv 4) xint)) xanil)) xint)) (ycons (yset sc.nd (i := 5) rfl (.inl rfl) (xbin oMod (xct cInt rfl (He.free_ok KX G (c.fact 0 rfl)) rfl (xacons (xbin (oAdd rfl) (xbin oMul (xv 5) (xv 5)) (xbin oMul (xv 4) xint)) xanil)) xint)) (yone (yret (xbin oMod (xct cInt rfl (He.free_ok KX G (c.fact 0 rfl)) rfl (xacons (xbin oDiv (xv 5) xint) xanil)) (xv 1)))))))))))))
theorem sc1 : FnScope ["self", "name"] ["self", "name"] (defScope s1) := ⟨rfl, rfl, rfl, by decide +kernel, rfl, by decide +kernel, by decide +kernel⟩
theorem okx1 (KX : K.In h0) (G : h0.Ns mainGlobals mg) (c : He.SaysD fa fn K) (ck : Ck K w) : OkX P w K mg base (CC K w) 1 (He.ma K (He.ga K "TwiceTold") "__init__") 12 "name" fe1 := by
  obtain ⟨fd, F⟩ := c.def_ 2 (d := dd1) rfl
  have sc := sc1
  exact ⟨fd, ["self", "name"], okx (c := 12) (k := 0) (v := true) rfl F sc (ck.xs.at rfl) (ck.xa_name 12 (by simp)).2 (fun _ _ _ _ _ _ => pe_var rfl (.inl rfl)) (fun cdv A outer s H E hr => (xv 1)) (fun _ _ _ _ _ _ => rfl), FunD.bindsN F fun _ _ _ _ _ _ us hl => match us, hl with | [_, _], _ => rfl⟩
theorem sc0 : FnScope ["self", "name"] ["self", "name"] (defScope s0) := ⟨rfl, rfl, rfl, by decide +kernel, rfl, by decide +kernel, by decide +kernel⟩
theorem okx0 (KX : K.In h0) (G : h0.Ns mainGlobals mg) (c : He.SaysD fa fn K) (ck : Ck K w) : OkX P w K mg base (CC K w) 1 (He.ma K (He.ga K "BadName") "__init__") 11 "name" fe0 := by
  obtain ⟨fd, F⟩ := c.def_ 3 (d := dd0) rfl
  have sc := sc0
  exact ⟨fd, ["self", "name"], okx (c := 11) (k := 0) (v := true) rfl F sc (ck.xs.at rfl) (ck.xa_name 11 (by simp)).2 (fun _ _ _ _ _ _ => pe_var rfl (.inl rfl)) (fun cdv A outer s H E hr => (xv 1)) (fun _ _ _ _ _ _ => rfl), FunD.bindsN F fun _ _ _ _ _ _ us hl => match us, hl with | [_, _], _ => rfl⟩
theorem sc6 : FnScope ["self", "path"] ["self", "path"] (defScope s6) := ⟨rfl, rfl, rfl, by decide +kernel, rfl, by decide +kernel, by decide +kernel⟩
theorem okx6 (KX : K.In h0) (G : h0.Ns mainGlobals mg) (c : He.SaysD fa fn K) (ck : Ck K w) : OkX P w K mg base (CC K w) 1 (He.ma K (He.ga K "BadData") "__init__") 17 "path" fe6 := by
  obtain ⟨fd, F⟩ := c.def_ 4 (d := dd6) rfl
  have sc := sc6
  exact ⟨fd, ["self", "path"], okx (c := 17) (k := 0) (v := true) rfl F sc (ck.xs.at rfl) (ck.xa_path 17 (by simp)).2 (fun _ _ _ _ _ _ => pe_var rfl (.inl rfl)) (fun cdv A outer s H E hr => (xct (cTuple rfl) rfl (He.free_ok KX G (c.fact 11 rfl)) rfl (xacons (xv 1) xanil))) (fun _ _ _ _ _ _ => rfl), FunD.bindsN F fun _ _ _ _ _ _ us hl => match us, hl with | [_, _], _ => rfl⟩
theorem sc5 : FnScope ["self", "path"] ["self", "path"] (defScope s5) := ⟨rfl, rfl, rfl, by decide +kernel, rfl, by decide +kernel, by decide +kernel⟩
theorem okx5 (KX : K.In h0) (G : h0.Ns mainGlobals mg) (c : He.SaysD fa fn K) (ck : Ck K w) : OkX P w K mg base (CC K w) 1 (He.ma K (He.ga K "BadBook") "__init__") 16 "path" fe5 := by
  obtain ⟨fd, F⟩ := c.def_ 5 (d := dd5) rfl
  have sc := sc5
  exact ⟨fd, ["self", "path"], okx (c := 16) (k := 0) (v := true) rfl F sc (ck.xs.at rfl) (ck.xa_path 16 (by simp)).2 (fun _ _ _ _ _ _ => pe_var rfl (.inl rfl)) (fun cdv A outer s H E hr => (xct (cTuple rfl) rfl (He.free_ok KX G (c.fact 11 rfl)) rfl (xacons (xv 1) xanil))) (fun _ _ _ _ _ _ => rfl), FunD.bindsN F fun _ _ _ _ _ _ us hl => match us, hl with | [_, _], _ => rfl⟩
theorem sc4 : FnScope ["self", "word"] ["self", "word"] (defScope s4) := ⟨rfl, rfl, rfl, by decide +kernel, rfl, by decide +kernel, by decide +kernel⟩
theorem okx4 (KX : K.In h0) (G : h0.Ns mainGlobals mg) (c : He.SaysD fa fn K) (ck : Ck K w) : OkX P w K mg base (CC K w) 1 (He.ma K (He.ga K "BadStart") "__init__") 15 "word" fe4 := by
  obtain ⟨fd, F⟩ := c.def_ 6 (d := dd4) rfl
  have sc := sc4
  exact ⟨fd, ["self", "word"], okx (c := 15) (k := 0) (v := true) rfl F sc (ck.xs.at rfl) (ck.xa_word 15 (by simp)).2 (fun _ _ _ _ _ _ => pe_var rfl (.inl rfl)) (fun cdv A outer s H E hr => (xv 1)) (fun _ _ _ _ _ _ => rfl), FunD.bindsN F fun _ _ _ _ _ _ us hl => match us, hl with | [_, _], _ => rfl⟩
theorem sc3 : FnScope ["self", "word"] ["self", "word"] (defScope s3) := ⟨rfl, rfl, rfl, by decide +kernel, rfl, by decide +kernel, by decide +kernel⟩
theorem okx3 (KX : K.In h0) (G : h0.Ns mainGlobals mg) (c : He.SaysD fa fn K) (ck : Ck K w) : OkX P w K mg base (CC K w) 1 (He.ma K (He.ga K "BadMachine") "__init__") 14 "word" fe3 := by
  obtain ⟨fd, F⟩ := c.def_ 7 (d := dd3) rfl
  have sc := sc3
  exact ⟨fd, ["self", "word"], okx (c := 14) (k := 0) (v := true) rfl F sc (ck.xs.at rfl) (ck.xa_word 14 (by simp)).2 (fun _ _ _ _ _ _ => pe_var rfl (.inl rfl)) (fun cdv A outer s H E hr => (xv 1)) (fun _ _ _ _ _ _ => rfl), FunD.bindsN F fun _ _ _ _ _ _ us hl => match us, hl with | [_, _], _ => rfl⟩
theorem sc2 : FnScope ["self", "word"] ["self", "word"] (defScope s2) := ⟨rfl, rfl, rfl, by decide +kernel, rfl, by decide +kernel, by decide +kernel⟩
theorem okx2 (KX : K.In h0) (G : h0.Ns mainGlobals mg) (c : He.SaysD fa fn K) (ck : Ck K w) : OkX P w K mg base (CC K w) 1 (He.ma K (He.ga K "BadMeaning") "__init__") 13 "word" fe2 := by
  obtain ⟨fd, F⟩ := c.def_ 8 (d := dd2) rfl
  have sc := sc2
  exact ⟨fd, ["self", "word"], okx (c := 13) (k := 0) (v := true) rfl F sc (ck.xs.at rfl) (ck.xa_word 13 (by simp)).2 (fun _ _ _ _ _ _ => pe_var rfl (.inl rfl)) (fun cdv A outer s H E hr => (xv 1)) (fun _ _ _ _ _ _ => rfl), FunD.bindsN F fun _ _ _ _ _ _ us hl => match us, hl with | [_, _], _ => rfl⟩
theorem sc8 : FnScope ["self", "limit"] ["self", "limit"] (defScope s8) := ⟨rfl, rfl, rfl, by decide +kernel, rfl, by decide +kernel, by decide +kernel⟩
theorem okx8 (KX : K.In h0) (G : h0.Ns mainGlobals mg) (c : He.SaysD fa fn K) (ck : Ck K w) : OkX P w K mg base (CC K w) 1 (He.ma K (He.ga K "TooLong") "__init__") 19 "limit" fe8 := by
  obtain ⟨fd, F⟩ := c.def_ 9 (d := dd8) rfl
  have sc := sc8
  exact ⟨fd, ["self", "limit"], okx (c := 19) (k := 0) (v := true) rfl F sc (ck.xs.at rfl) (ck.xa_limit 19 (by simp)).2 (fun _ _ _ _ _ _ => pe_var rfl (.inl rfl)) (fun cdv A outer s H E hr => (xv 1)) (fun _ _ _ _ _ _ => rfl), FunD.bindsN F fun _ _ _ _ _ _ us hl => match us, hl with | [_, _], _ => rfl⟩
theorem sc7 : FnScope ["self", "place"] ["self", "place"] (defScope s7) := ⟨rfl, rfl, rfl, by decide +kernel, rfl, by decide +kernel, by decide +kernel⟩
theorem okx7 (KX : K.In h0) (G : h0.Ns mainGlobals mg) (c : He.SaysD fa fn K) (ck : Ck K w) : OkX P w K mg base (CC K w) 1 (He.ma K (He.ga K "BadText") "__init__") 18 "place" fe7 := by
  obtain ⟨fd, F⟩ := c.def_ 10 (d := dd7) rfl
  have sc := sc7
  exact ⟨fd, ["self", "place"], okx (c := 18) (k := 0) (v := true) rfl F sc (ck.xs.at rfl) (ck.xa_place 18 (by simp)).2 (fun _ _ _ _ _ _ => pe_var rfl (.inl rfl)) (fun cdv A outer s H E hr => (xv 1)) (fun _ _ _ _ _ _ => rfl), FunD.bindsN F fun _ _ _ _ _ _ us hl => match us, hl with | [_, _], _ => rfl⟩
theorem sc11 : FnScope ["self", "number"] ["self", "number"] (defScope s11) := ⟨rfl, rfl, rfl, by decide +kernel, rfl, by decide +kernel, by decide +kernel⟩
theorem okx11 (KX : K.In h0) (G : h0.Ns mainGlobals mg) (c : He.SaysD fa fn K) (ck : Ck K w) : OkX P w K mg base (CC K w) 1 (He.ma K (He.ga K "NotThere") "__init__") 23 "number" fe11 := by
  obtain ⟨fd, F⟩ := c.def_ 11 (d := dd11) rfl
  have sc := sc11
  exact ⟨fd, ["self", "number"], okx (c := 23) (k := 0) (v := false) rfl F sc (ck.xs.at rfl) (ck.xa_number 23 (by simp)).2 (fun _ _ _ _ _ _ => pe_var rfl (.inl rfl)) (fun cdv A outer s H E hr => (xv 1)) (fun _ _ _ _ _ _ => rfl), FunD.bindsN F fun _ _ _ _ _ _ us hl => match us, hl with | [_, _], _ => rfl⟩
theorem sc10 : FnScope ["self", "number"] ["self", "number"] (defScope s10) := ⟨rfl, rfl, rfl, by decide +kernel, rfl, by decide +kernel, by decide +kernel⟩
theorem okx10 (KX : K.In h0) (G : h0.Ns mainGlobals mg) (c : He.SaysD fa fn K) (ck : Ck K w) : OkX P w K mg base (CC K w) 1 (He.ma K (He.ga K "UnknownWorld") "__init__") 22 "number" fe10 := by
  obtain ⟨fd, F⟩ := c.def_ 12 (d := dd10) rfl
  have sc := sc10
  exact ⟨fd, ["self", "number"], okx (c := 22) (k := 0) (v := false) rfl F sc (ck.xs.at rfl) (ck.xa_number 22 (by simp)).2 (fun _ _ _ _ _ _ => pe_var rfl (.inl rfl)) (fun cdv A outer s H E hr => (xv 1)) (fun _ _ _ _ _ _ => rfl), FunD.bindsN F fun _ _ _ _ _ _ us hl => match us, hl with | [_, _], _ => rfl⟩
theorem sc9 : FnScope ["self", "name"] ["self", "name"] (defScope s9) := ⟨rfl, rfl, rfl, by decide +kernel, rfl, by decide +kernel, by decide +kernel⟩
theorem okx9 (KX : K.In h0) (G : h0.Ns mainGlobals mg) (c : He.SaysD fa fn K) (ck : Ck K w) : OkX P w K mg base (CC K w) 1 (He.ma K (He.ga K "UnknownName") "__init__") 21 "name" fe9 := by
  obtain ⟨fd, F⟩ := c.def_ 13 (d := dd9) rfl
  have sc := sc9
  exact ⟨fd, ["self", "name"], okx (c := 21) (k := 0) (v := false) rfl F sc (ck.xs.at rfl) (ck.xa_name 21 (by simp)).2 (fun _ _ _ _ _ _ => pe_var rfl (.inl rfl)) (fun cdv A outer s H E hr => (xv 1)) (fun _ _ _ _ _ _ => rfl), FunD.bindsN F fun _ _ _ _ _ _ us hl => match us, hl with | [_, _], _ => rfl⟩
theorem sc16 : FnScope ["_law_word", "_law_number", "_law_some", "_law_found"] ["_law_word", "_law_number", "_law_some"] (defScope s16) := ⟨rfl, rfl, rfl, by decide +kernel, rfl, by decide +kernel, by decide +kernel⟩
theorem ok16 (KX : K.In h0) (G : h0.Ns mainGlobals mg) (c : He.SaysD fa fn K) (ck : Ck K w) : OkF P w K mg base (CC K w) 3 (He.ga K "_law_every") 3 f16 := by
  obtain ⟨fd, F⟩ := c.def_ 14 (d := dd16) rfl
  have sc := sc16
  refine okf (N := ["_law_word", "_law_number", "_law_some", "_law_found"]) (ps := ["_law_word", "_law_number", "_law_some"]) (k := 2) (fb := den16) F sc rfl (FunD.bindsN F fun _ _ _ _ _ _ us hl => match us, hl with | [_, _, _], _ => rfl) fun cdv A outer s H E hr => ?_
  exact PSs.nox (ycons (yset sc.nd (i := 3) rfl (.inl rfl) (xlst (xacons (xmx0 (c := 8) (ck.xs.at rfl) ck.x0_BadChoice rfl (He.glo_ok KX G (c.fact 10 rfl))) (xacons (xmx0 (c := 9) (ck.xs.at rfl) ck.x0_BadPaper rfl (He.glo_ok KX G (c.fact 9 rfl))) (xacons (xmx0 (c := 10) (ck.xs.at rfl) ck.x0_NoRoom rfl (He.glo_ok KX G (c.fact 8 rfl))) (xacons (xmxz (c := 11) (j := 0) rfl (ck.xs.at rfl) ck.xi_BadName rfl (okx0 KX G c ck) (hr.mono (by decide)) rfl (He.glo_ok KX G (c.fact 7 rfl)) (xacons (xv 0) xanil)) (xacons (xmxz (c := 12) (j := 0) rfl (ck.xs.at rfl) ck.xi_TwiceTold rfl (okx1 KX G c ck) (hr.mono (by decide)) rfl (He.glo_ok KX G (c.fact 6 rfl)) (xacons (xv 0) xanil)) xanil))))))) (ycons (yset sc.nd (i := 3) rfl (.inl rfl) (xbin (oAdd rfl) (xv 3) (xlst (xacons (xmxz (c := 13) (j := 1) rfl (ck.xs.at rfl) ck.xi_BadMeaning rfl (okx2 KX G c ck) (hr.mono (by decide)) rfl (He.glo_ok KX G (c.fact 16 rfl)) (xacons (xv 0) xanil)) (xacons (xmxz (c := 14) (j := 1) rfl (ck.xs.at rfl) ck.xi_BadMachine rfl (okx3 KX G c ck) (hr.mono (by decide)) rfl (He.glo_ok KX G (c.fact 15 rfl)) (xacons (xv 0) xanil)) (xacons (xmxz (c := 15) (j := 1) rfl (ck.xs.at rfl) ck.xi_BadStart rfl (okx4 KX G c ck) (hr.mono (by decide)) rfl (He.glo_ok KX G (c.fact 14 rfl)) (xacons (xv 0) xanil)) (xacons (xmxz (c := 16) (j := 2) rfl (ck.xs.at rfl) ck.xi_BadBook rfl (okx5 KX G c ck) (hr.mono (by decide)) rfl (He.glo_ok KX G (c.fact 13 rfl)) (xacons (xv 2) xanil)) (xacons (xmxz (c := 17) (j := 2) rfl (ck.xs.at rfl) ck.xi_BadData rfl (okx6 KX G c ck) (hr.mono (by decide)) rfl (He.glo_ok KX G (c.fact 12 rfl)) (xacons (xv 2) xanil)) xanil)))))))) (ycons (yset sc.nd (i := 3) rfl (.inl rfl) (xbin (oAdd rfl) (xv 3) (xlst (xacons (xmxz (c := 18) (j := 3) rfl (ck.xs.at rfl) ck.xi_BadText rfl (okx7 KX G c ck) (hr.mono (by decide)) rfl (He.glo_ok KX G (c.fact 18 rfl)) (xacons (xv 1) xanil)) (xacons (xmxz (c := 19) (j := 4) rfl (ck.xs.at rfl) ck.xi_TooLong rfl (okx8 KX G c ck) (hr.mono (by decide)) rfl (He.glo_ok KX G (c.fact 17 rfl)) (xacons (xv 1) xanil)) xanil))))) (yone (yret (xbin (oAdd rfl) (xv 3) (xlst (xacons (xmxz (c := 21) (j := 0) rfl (ck.xs.at rfl) ck.xi_UnknownName rfl (okx9 KX G c ck) (hr.mono (by decide)) rfl (He.glo_ok KX G (c.fact 21 rfl)) (xacons (xv 0) xanil)) (xacons (xmxz (c := 22) (j := 5) rfl (ck.xs.at rfl) ck.xi_UnknownWorld rfl (okx10 KX G c ck) (hr.mono (by decide)) rfl (He.glo_ok KX G (c.fact 20 rfl)) (xacons (xv 1) xanil)) (xacons (xmxz (c := 23) (j := 5) rfl (ck.xs.at rfl) ck.xi_NotThere rfl (okx11 KX G c ck) (hr.mono (by decide)) rfl (He.glo_ok KX G (c.fact 19 rfl)) (xacons (xv 1) xanil)) xanil))))))))))
theorem sc14 : FnScope ["_law_e", "_law_found"] ["_law_e"] (defScope s14) := ⟨rfl, rfl, rfl, by decide +kernel, rfl, by decide +kernel, by decide +kernel⟩
theorem ok14 (KX : K.In h0) (G : h0.Ns mainGlobals mg) (c : He.SaysD fa fn K) (ck : Ck K w) : OkF P w K mg base (CC K w) 1 (He.ga K "_law_kinds") 1 f14 := by
  obtain ⟨fd, F⟩ := c.def_ 15 (d := dd14) rfl
  have sc := sc14
  refine okf (N := ["_law_e", "_law_found"]) (ps := ["_law_e"]) (k := 0) (fb := den14) F sc rfl (FunD.bindsN F fun _ _ _ _ _ _ us hl => match us, hl with | [_], _ => rfl) fun cdv A outer s H E hr => ?_
  exact PSs.nox (ycons (yset sc.nd (i := 1) rfl (.inl rfl) (xlst (xacons (xisX (y := .ref (He.ga K "BadChoice")) rfl ck.xt_BadChoice (fun _ r => r) rfl (He.free_ok KX G (c.fact 23 rfl)) (xv 0) (xclsv rfl (He.glo_ok KX G (c.fact 10 rfl)))) (xacons (xisX (y := .ref (He.ga K "BadPaper")) rfl ck.xt_BadPaper (fun _ r => r) rfl (He.free_ok KX G (c.fact 23 rfl)) (xv 0) (xclsv rfl (He.glo_ok KX G (c.fact 9 rfl)))) (xacons (xisX (y := .ref (He.ga K "NoRoom")) rfl ck.xt_NoRoom (fun _ r => r) rfl (He.free_ok KX G (c.fact 23 rfl)) (xv 0) (xclsv rfl (He.glo_ok KX G (c.fact 8 rfl)))) (xacons (xisX (y := .ref (He.ga K "BadName")) rfl ck.xt_BadName (fun _ r => r) rfl (He.free_ok KX G (c.fact 23 rfl)) (xv 0) (xclsv rfl (He.glo_ok KX G (c.fact 7 rfl)))) xanil)))))) (ycons (yset sc.nd (i := 1) rfl (.inl rfl) (xbin (oAdd rfl) (xv 1) (xlst (xacons (xisX (y := .ref (He.ga K "TwiceTold")) rfl ck.xt_TwiceTold (fun _ r => r) rfl (He.free_ok KX G (c.fact 23 rfl)) (xv 0) (xclsv rfl (He.glo_ok KX G (c.fact 6 rfl)))) (xacons (xisX (y := .ref (He.ga K "BadMeaning")) rfl ck.xt_BadMeaning (fun _ r => r) rfl (He.free_ok KX G (c.fact 23 rfl)) (xv 0) (xclsv rfl (He.glo_ok KX G (c.fact 16 rfl)))) (xacons (xisX (y := .ref (He.ga K "BadMachine")) rfl ck.xt_BadMachine (fun _ r => r) rfl (He.free_ok KX G (c.fact 23 rfl)) (xv 0) (xclsv rfl (He.glo_ok KX G (c.fact 15 rfl)))) xanil)))))) (ycons (yset sc.nd (i := 1) rfl (.inl rfl) (xbin (oAdd rfl) (xv 1) (xlst (xacons (xisX (y := .ref (He.ga K "BadStart")) rfl ck.xt_BadStart (fun _ r => r) rfl (He.free_ok KX G (c.fact 23 rfl)) (xv 0) (xclsv rfl (He.glo_ok KX G (c.fact 14 rfl)))) (xacons (xisX (y := .ref (He.ga K "BadBook")) rfl ck.xt_BadBook (fun _ r => r) rfl (He.free_ok KX G (c.fact 23 rfl)) (xv 0) (xclsv rfl (He.glo_ok KX G (c.fact 13 rfl)))) (xacons (xisX (y := .ref (He.ga K "BadData")) rfl ck.xt_BadData (fun _ r => r) rfl (He.free_ok KX G (c.fact 23 rfl)) (xv 0) (xclsv rfl (He.glo_ok KX G (c.fact 12 rfl)))) xanil)))))) (ycons (yset sc.nd (i := 1) rfl (.inl rfl) (xbin (oAdd rfl) (xv 1) (xlst (xacons (xisX (y := .ref (He.ga K "BadText")) rfl ck.xt_BadText (fun _ r => r) rfl (He.free_ok KX G (c.fact 23 rfl)) (xv 0) (xclsv rfl (He.glo_ok KX G (c.fact 18 rfl)))) (xacons (xisX (y := .ref (He.ga K "TooLong")) rfl ck.xt_TooLong (fun _ r => r) rfl (He.free_ok KX G (c.fact 23 rfl)) (xv 0) (xclsv rfl (He.glo_ok KX G (c.fact 17 rfl)))) xanil))))) (yone (yret (xbin (oAdd rfl) (xv 1) (xlst (xacons (xisX (y := .ref (He.ga K "UnknownName")) rfl ck.xt_UnknownName (fun _ r => r) rfl (He.free_ok KX G (c.fact 23 rfl)) (xv 0) (xclsv rfl (He.glo_ok KX G (c.fact 21 rfl)))) (xacons (xisX (y := .ref (He.ga K "UnknownWorld")) rfl ck.xt_UnknownWorld (fun _ r => r) rfl (He.free_ok KX G (c.fact 23 rfl)) (xv 0) (xclsv rfl (He.glo_ok KX G (c.fact 20 rfl)))) (xacons (xisX (y := .ref (He.ga K "NotThere")) rfl ck.xt_NotThere (fun _ r => r) rfl (He.free_ok KX G (c.fact 23 rfl)) (xv 0) (xclsv rfl (He.glo_ok KX G (c.fact 19 rfl)))) xanil)))))))))))
theorem sc15 : FnScope ["_law_e", "_law_found"] ["_law_e"] (defScope s15) := ⟨rfl, rfl, rfl, by decide +kernel, rfl, by decide +kernel, by decide +kernel⟩
theorem ok15 (KX : K.In h0) (G : h0.Ns mainGlobals mg) (c : He.SaysD fa fn K) (ck : Ck K w) : OkF P w K mg base (CC K w) 1 (He.ga K "_law_bases") 1 f15 := by
  obtain ⟨fd, F⟩ := c.def_ 16 (d := dd15) rfl
  have sc := sc15
  refine okf (N := ["_law_e", "_law_found"]) (ps := ["_law_e"]) (k := 0) (fb := den15) F sc rfl (FunD.bindsN F fun _ _ _ _ _ _ us hl => match us, hl with | [_], _ => rfl) fun cdv A outer s H E hr => ?_
  exact PSs.nox (ycons (yset sc.nd (i := 1) rfl (.inl rfl) (xlst (xacons (xisX (y := .ref (He.ga K "HostError")) rfl ck.xt_HostError (fun _ r => r) rfl (He.free_ok KX G (c.fact 23 rfl)) (xv 0) (xclsv rfl (He.glo_ok KX G (c.fact 26 rfl)))) (xacons (xisX (y := .ty "ValueError") rfl ck.xt_ValueError (fun _ r => r) rfl (He.free_ok KX G (c.fact 23 rfl)) (xv 0) (xtyv rfl (He.free_ok KX G (c.fact 25 rfl)) PyProof.Rows.Boot.«ValueError»)) xanil)))) (yone (yret (xbin (oAdd rfl) (xv 1) (xlst (xacons (xisX (y := .ref (He.ga K "NameMissing")) rfl ck.xt_NameMissing (fun _ r => r) rfl (He.free_ok KX G (c.fact 23 rfl)) (xv 0) (xclsv rfl (He.glo_ok KX G (c.fact 28 rfl)))) (xacons (xisX (y := .ty "LookupError") rfl ck.xt_LookupError (fun _ r => r) rfl (He.free_ok KX G (c.fact 23 rfl)) (xv 0) (xtyv rfl (He.free_ok KX G (c.fact 27 rfl)) PyProof.Rows.Boot.«LookupError»)) xanil)))))))
theorem sc17 : FnScope ["_law_every_here", "_law_word", "_law_number", "_law_some", "_law_names", "_law_numbers"] ["_law_every_here", "_law_word", "_law_number", "_law_some"] (defScope s17) := ⟨rfl, rfl, rfl, by decide +kernel, rfl, by decide +kernel, by decide +kernel⟩
theorem ok17 (KX : K.In h0) (G : h0.Ns mainGlobals mg) (c : He.SaysD fa fn K) (ck : Ck K w) : OkG P w K mg base (CC K w) 1 (He.ga K "_law_kept") 4 f17 := by
  obtain ⟨fd, F⟩ := c.def_ 17 (d := dd17) rfl
  have sc := sc17
  refine okg (N := ["_law_every_here", "_law_word", "_law_number", "_law_some", "_law_names", "_law_numbers"]) (ps := ["_law_every_here", "_law_word", "_law_number", "_law_some"]) (k := 0) (fb := den17) F sc rfl (FunD.bindsN F fun _ _ _ _ _ _ us hl => match us, hl with | [_, _, _, _], _ => rfl) fun cdv A outer s H E hgd hr => ?_
  exact PSs.nox (ycons (yset sc.nd (i := 4) rfl (.inl rfl) (xlst (xacons (xxf (j := 0) rfl an_nd rfl ck.xa_name (xix rfl rfl hr.units1 (xv 0) xint (by intro _ _; rfl))) (xacons (xxf (j := 0) rfl an_nd rfl ck.xa_name (xix rfl rfl hr.units1 (xv 0) xint (by intro _ _; rfl))) (xacons (xxf (j := 1) rfl an_nd rfl ck.xa_word (xix rfl rfl hr.units1 (xv 0) xint (by intro _ _; rfl))) (xacons (xxf (j := 1) rfl an_nd rfl ck.xa_word (xix rfl rfl hr.units1 (xv 0) xint (by intro _ _; rfl))) (xacons (xxf (j := 1) rfl an_nd rfl ck.xa_word (xix rfl rfl hr.units1 (xv 0) xint (by intro _ _; rfl))) (xacons (xxf (j := 0) rfl an_nd rfl ck.xa_name (xix rfl rfl hr.units1 (xv 0) xint (by intro _ _; rfl))) xanil)))))))) (ycons (yif (PW.pt (xor (xtcmp (oNeX rfl hr.units65) (xcb (cRepr rfl ck.sysd hgd hr.units) rfl (He.free_ok KX G (c.fact 30 rfl)) rfl (xacons (xv 4) xanil)) (xcb (cRepr rfl ck.sysd hgd hr.units) rfl (He.free_ok KX G (c.fact 30 rfl)) rfl (xacons (xbin oMul (xlst (xacons (xv 1) xanil)) xint) xanil)) (by rfl)) (pw_or1 (xtcmp (oNeX rfl hr.units65) (xcb (cRepr rfl ck.sysd hgd hr.units) rfl (He.free_ok KX G (c.fact 30 rfl)) rfl (xacons (xlst (xacons (xxf (j := 2) rfl an_nd rfl ck.xa_path (xix rfl rfl hr.units1 (xv 0) xint (by intro _ _; rfl))) (xacons (xxf (j := 2) rfl an_nd rfl ck.xa_path (xix rfl rfl hr.units1 (xv 0) xint (by intro _ _; rfl))) xanil))) xanil)) (xcb (cRepr rfl ck.sysd hgd hr.units) rfl (He.free_ok KX G (c.fact 30 rfl)) rfl (xacons (xbin oMul (xlst (xacons (xct (cTuple rfl) rfl (He.free_ok KX G (c.fact 11 rfl)) rfl (xacons (xv 3) xanil)) xanil)) xint) xanil)) (by rfl))))) (yone (yret xbl)) ynil) (ycons (yset sc.nd (i := 5) rfl (.inl rfl) (xlst (xacons (xxf (j := 3) rfl an_nd rfl ck.xa_place (xix rfl rfl hr.units1 (xv 0) xint (by intro _ _; rfl))) (xacons (xxf (j := 4) rfl an_nd rfl ck.xa_limit (xix rfl rfl hr.units1 (xv 0) xint (by intro _ _; rfl))) (xacons (xxf (j := 5) rfl an_nd rfl ck.xa_number (xix rfl rfl hr.units1 (xv 0) xint (by intro _ _; rfl))) (xacons (xxf (j := 5) rfl an_nd rfl ck.xa_number (xix rfl rfl hr.units1 (xv 0) xint (by intro _ _; rfl))) xanil)))))) (yone (yret (xcmp (oEqX rfl hr.units65) (xcb (cRepr rfl ck.sysd hgd hr.units) rfl (He.free_ok KX G (c.fact 30 rfl)) rfl (xacons (xv 5) xanil)) (xcb (cRepr rfl ck.sysd hgd hr.units) rfl (He.free_ok KX G (c.fact 30 rfl)) rfl (xacons (xbin oMul (xlst (xacons (xv 2) xanil)) xint) xanil)) (by rfl)))))))
theorem sc18 : FnScope ["_law_script", "_law_source_here", "_law_great", "_law_lap", "_law_word", "_law_number", "_law_some", "_law_every_here", "_law_k", "_law_j"] ["_law_script"] (defScope s18) := ⟨rfl, rfl, rfl, by decide +kernel, rfl, by decide +kernel, by decide +kernel⟩
end
end Lw

namespace Lw
open L2 PySem PySem.Spec PyProof.Rows Pd

/-! ### the source of numbers -/
theorem seq_nx {a b : DS} {Γ Γ1 : Ga} {S S1 : Sto} (h : a Γ S = .nx Γ1 S1) : sSeq a b Γ S = b Γ1 S1 := by unfold sSeq; rw [h]; rfl
theorem seq_rt {a b : DS} {Γ : Ga} {d : D} {S S1 : Sto} (h : a Γ S = .rt d S1) : sSeq a b Γ S = .rt d S1 := by unfold sSeq; rw [h]; rfl
theorem set_nx {e : DE} {i : Nat} {Γ : Ga} {d : D} {S S1 : Sto} (h : e Γ S = .ok d S1) : sSet e i Γ S = .nx (Γ.set i (some d)) S1 := by unfold sSet; rw [h]; rfl
theorem ret_rt {e : DE} {Γ : Ga} {d : D} {S S1 : Sto} (h : e Γ S = .ok d S1) : sRet e Γ S = .rt d S1 := by unfold sRet; rw [h]; rfl
theorem if_t {t : DT} {a b : DS} {Γ : Ga} {S S1 : Sto} (h : t Γ S = .ok true S1) : sIf t a b Γ S = a Γ S1 := by unfold sIf; rw [h]; rfl
theorem if_f {t : DT} {a b : DS} {Γ : Ga} {S S1 : Sto} (h : t Γ S = .ok false S1) : sIf t a b Γ S = b Γ S1 := by unfold sIf; rw [h]; rfl
theorem put_nx {fv fo fi : DE} {Γ : Ga} {v o i : D} {S S1 S2 S3 S4 : Sto} (hv : fv Γ S = .ok v S1) (ho : fo Γ S1 = .ok o S2) (hi : fi Γ S2 = .ok i S3) (h : fPut o i v S3 = some S4) : sPut fv fo fi Γ S = .nx Γ S4 := by
  unfold sPut; rw [hv]; show Res.then (fo Γ S1) _ = _; rw [ho]; show Res.then (fi Γ S2) _ = _; rw [hi]; show (match fPut o i v S3 with | some S4 => SRes.nx Γ S4 | none => .bad) = _; rw [h]
theorem d2_ok {f : D → D → Sto → Res D} {fa fb : DE} {Γ : Ga} {a b : D} {S S1 S2 : Sto} (ha : fa Γ S = .ok a S1) (hb : fb Γ S1 = .ok b S2) : d2 f fa fb Γ S = f a b S2 := by
  unfold d2; rw [ha]; show Res.bind (fb Γ S1) _ = _; rw [hb]; rfl
theorem t2_ok {f : D → D → Sto → Res D} {fa fb : DE} {Γ : Ga} {a b : D} {S S1 S2 : Sto} (ha : fa Γ S = .ok a S1) (hb : fb Γ S1 = .ok b S2) : t2 f fa fb Γ S = (f a b S2).bind blB := by
  unfold t2; rw [ha]; show Res.bind (fb Γ S1) _ = _; rw [hb]; rfl
theorem args1 {fa : DE} {Γ : Ga} {a : D} {S S1 : Sto} (h : fa Γ S = .ok a S1) : aCons fa aNil Γ S = .ok [a] S1 := by unfold aCons; rw [h]; rfl
theorem args2 {fa fb : DE} {Γ : Ga} {a b : D} {S S1 S2 : Sto} (h : fa Γ S = .ok a S1) (h2 : fb Γ S1 = .ok b S2) : aCons fa (aCons fb aNil) Γ S = .ok [a, b] S2 := by
  unfold aCons; rw [h]; show Res.bind (Res.bind (fb Γ S1) _) _ = _; rw [h2]; rfl
theorem add_ok {fa fb : DE} {Γ : Ga} {i j : Int} {S S1 S2 : Sto} (ha : fa Γ S = .ok (.int i) S1) (hb : fb Γ S1 = .ok (.int j) S2) : d2 fAdd fa fb Γ S = .ok (.int (i + j)) S2 := (d2_ok ha hb).trans rfl
theorem int_ok {fa : DE} {Γ : Ga} {i : Int} {S S1 : Sto} (h : fa Γ S = .ok (.int i) S1) : dCB gInt (aCons fa aNil) Γ S = .ok (.int i) S1 := by
  unfold dCB aCons; rw [h]; rfl

abbrev kCells : Str := ⟨#[99, 101, 108, 108, 115]⟩
abbrev kLeft : Str := ⟨#[108, 101, 102, 116]⟩
abbrev kMixed : Str := ⟨#[109, 105, 120, 101, 100]⟩
abbrev kTurn : Str := ⟨#[116, 117, 114, 110]⟩
def sd (m : Nat) (l x t : Int) : MO := .dct [(.inr kCells, .ref m), (.inr kLeft, .int l), (.inr kMixed, .int x), (.inr kTurn, .int t)]
/-- nothing lies where new things come -/
def Ok (S : Sto) : Prop := ∀ k, S.nx ≤ k → S.at k = none
structure Src (S : Sto) (n m : Nat) (cs : List Int) (l x t : Int) : Prop where
  d : S.at n = some (sd m l x t)
  c : S.at m = some (.lst (cs.map D.int))
  ne : m ≠ n
  nn : n < S.nx
  mn : m < S.nx
  ok : Ok S
  l0 : 0 ≤ l
  cs0 : ∀ c ∈ cs, 0 ≤ c
section
variable {S : Sto} {n m : Nat} {cs : List Int} {l x t : Int}
theorem ix_d {key : Str} {v : D} (h : S.at n = some (sd m l x t)) (e : lookK [(.inr kCells, .ref m), (.inr kLeft, .int l), (.inr kMixed, .int x), (.inr kTurn, .int t)] (.inr key) = some v) : fIx (.ref n) (.str key) S = .ok v S := by
  have e1 : dttV S (.ref n) = none := by
    show (match S.at n with | some (.dtt ds) => some ds | some (.lck (.dtt ds)) => some ds | _ => none) = _
    rw [h]; rfl
  have e2 : dctV S (.ref n) = some [(.inr kCells, .ref m), (.inr kLeft, .int l), (.inr kMixed, .int x), (.inr kTurn, .int t)] := by
    show (match S.at n with | some (.dct ds) => some ds | some (.lck (.dct ds)) => some ds | _ => none) = _
    rw [h]; rfl
  show fIx0 (.ref n) (.str key) S = _
  unfold fIx0
  rw [e1, e2]
  show (match lookK [(.inr kCells, .ref m), (.inr kLeft, .int l), (.inr kMixed, .int x), (.inr kTurn, .int t)] (.inr key) with | some d => Res.ok d S | none => .bad) = _
  rw [e]
theorem put_d {key : Str} {v : D} {kds : List (Key × D)} (h : S.at n = some (sd m l x t)) (e : putG eqK [(.inr kCells, .ref m), (.inr kLeft, .int l), (.inr kMixed, .int x), (.inr kTurn, .int t)] (.inr key) v = kds) : fPut (.ref n) (.str key) v S = some (S.set n (.dct kds)) := by
  have e1 : fPutL (.ref n) (.str key) v S = none := by
    show (match S.at n with | some q => (match q with | .lst xs => (none : Option Sto) | _ => none) | none => none) = _
    rw [h]; rfl
  unfold fPut
  rw [e1]
  show (match S.at n with | some q => (match q with | .dct kds => ifS (lineOk (kds.length + 1)) (S.set n (.dct (putG eqK kds (.inr key) v))) | .dtt kds => none | _ => none) | none => none) = _
  rw [h]
  show ifS (lineOk 5) (S.set n (.dct (putG eqK [(.inr kCells, .ref m), (.inr kLeft, .int l), (.inr kMixed, .int x), (.inr kTurn, .int t)] (.inr key) v))) = _
  rw [e]; rfl
theorem at_set {m' : MO} (h : S.at n = some m') {q : MO} : (S.set n q).at n = some q := look_put_same h
theorem at_set_ne {j : Nat} {q : MO} (h : j ≠ n) : (S.set n q).at j = S.at j := look_put_ne h
theorem Ok.set {k : Nat} {q : MO} (o : Ok S) (hk : k < S.nx) : Ok (S.set k q) := fun j hj => by
  have : j ≠ k := fun z => by subst z; exact absurd hk (Nat.not_lt.mpr hj)
  rw [at_set_ne this]; exact o j hj
/-- all but n and m stand as they stood -/
def Fr2 (n m : Nat) (S S' : Sto) : Prop := (∀ j, j ≠ n → j ≠ m → S'.at j = S.at j) ∧ S'.ob.map (·.1) = S.ob.map (·.1)
theorem put_keys : ∀ (l : List (Nat × MO)) (n : Nat) (q : MO), (put l n q).map (·.1) = l.map (·.1)
  | [], _, _ => rfl
  | (k, m) :: r, n, q => by
    unfold put
    cases Nat.beq k n with
    | true => rfl
    | false => show k :: (put r n q).map (·.1) = _; rw [put_keys r n q]; rfl
theorem Fr2.refl : Fr2 n m S S := ⟨fun _ _ _ => rfl, rfl⟩
theorem Fr2.trans {S' S'' : Sto} (a : Fr2 n m S S') (b : Fr2 n m S' S'') : Fr2 n m S S'' := ⟨fun j h1 h2 => (b.1 j h1 h2).trans (a.1 j h1 h2), b.2.trans a.2⟩
theorem Fr2.setn {q : MO} : Fr2 n m S (S.set n q) := ⟨fun _ h _ => at_set_ne h, put_keys _ _ _⟩
theorem Fr2.setm {q : MO} : Fr2 n m S (S.set m q) := ⟨fun _ _ h => at_set_ne h, put_keys _ _ _⟩
theorem Src.left (s : Src S n m cs l x t) {v : Int} (hv : 0 ≤ v) : fPut (.ref n) (.str kLeft) (.int v) S = some (S.set n (sd m v x t)) ∧ Src (S.set n (sd m v x t)) n m cs v x t :=
  ⟨put_d s.d rfl, at_set s.d, by rw [at_set_ne s.ne]; exact s.c, s.ne, s.nn, s.mn, s.ok.set s.nn, hv, s.cs0⟩
theorem Src.turn (s : Src S n m cs l x t) {v : Int} : fPut (.ref n) (.str kTurn) (.int v) S = some (S.set n (sd m l x v)) ∧ Src (S.set n (sd m l x v)) n m cs l x v :=
  ⟨put_d s.d rfl, at_set s.d, by rw [at_set_ne s.ne]; exact s.c, s.ne, s.nn, s.mn, s.ok.set s.nn, s.l0, s.cs0⟩
theorem onL_at {ds : List D} {f : Nat → List D → Res D} (h : S.at n = some (.lst ds)) : onL (.ref n) S f = f n ds := by
  show (match S.at n with | some (.lst xs) => f n xs | _ => .bad) = _
  rw [h]
theorem lstV_at {ds : List D} (h : S.at n = some (.lst ds)) : lstV S (.ref n) = some ds := by
  show (match S.at n with | some (.lst ds) => some ds | _ => none) = _
  rw [h]
theorem unsnoc_snoc {α : Type} (i : List α) (z : α) : unsnoc (i ++ [z]) = some (i, z) := by
  induction i with
  | nil => rfl
  | cons a i ih =>
    cases i with
    | nil => rfl
    | cons b r =>
      show (match unsnoc (b :: r ++ [z]) with | some (i, z) => some (a :: i, z) | none => none) = _
      rw [ih]
theorem Src.pop (s : Src S n m (cs ++ [z]) l x t) : gPop (.ref m) [] S = .ok (.int z) (S.set m (.lst (cs.map D.int))) ∧ Src (S.set m (.lst (cs.map D.int))) n m cs l x t := by
  refine ⟨?_, ?_, at_set s.c, s.ne, s.nn, s.mn, s.ok.set s.mn, s.l0, fun c hc => s.cs0 c (List.mem_append_left _ hc)⟩
  · show onL (.ref m) S (fun n xs => match unsnoc xs with | some (i, z) => Res.ok z (S.set n (.lst i)) | none => .bad) = _
    rw [onL_at s.c]
    show (match unsnoc ((cs ++ [z]).map D.int) with | some (i, z) => Res.ok z (S.set m (.lst i)) | none => .bad) = _
    rw [List.map_append]
    show (match unsnoc (cs.map D.int ++ [D.int z]) with | some (i, z) => Res.ok z (S.set m (.lst i)) | none => .bad) = _
    rw [unsnoc_snoc]
  · rw [at_set_ne s.ne.symm]; exact s.d
end
theorem small_of {i : Int} (h0 : 0 ≤ i) (h : i < 18446744073709551616) : small i = true := by
  show Nat.blt i.natAbs 18446744073709551616 = true
  exact Nat.ble_eq_true_of_le (by omega)
theorem mul_ok {i j : Int} {S : Sto} (h : small i = true ∨ small j = true) : fMul (.int i) (.int j) S = .ok (.int (i * j)) S := by
  show guard (small i || small j) _ = _
  rcases h with h | h
  · rw [h]; rfl
  · rw [h, Bool.or_true]; rfl
theorem mod_ok {i j : Int} {S : Sto} (h : 0 < j) : fMod (.int i) (.int j) S = .ok (.int (i.fmod j)) S := by
  show guard (Nat.blt 0 j.natAbs) _ = _
  rw [show Nat.blt 0 j.natAbs = true from Nat.ble_eq_true_of_le (by omega)]; rfl
theorem div_ok {i j : Int} {S : Sto} (h : 0 < j) (h2 : j < 1073741824) : fDiv (.int i) (.int j) S = .ok (.int (i.fdiv j)) S := by
  show guard (Nat.blt 0 j.natAbs && Nat.blt j.natAbs 1073741824) _ = _
  rw [show Nat.blt 0 j.natAbs = true from Nat.ble_eq_true_of_le (by omega), show Nat.blt j.natAbs 1073741824 = true from Nat.ble_eq_true_of_le (by omega)]; rfl
theorem fmod_in {i j : Int} (h : 0 < j) : 0 ≤ i.fmod j ∧ i.fmod j < j := ⟨Int.fmod_nonneg_of_pos i h, Int.fmod_lt_of_pos i h⟩
/-! ### stores, lists -/
section
variable {S : Sto} {n m : Nat} {cs : List Int} {l x t : Int}
theorem put_put : ∀ (o : List (Nat × MO)) (n : Nat) (a b : MO), put (put o n a) n b = put o n b
  | [], _, _, _ => rfl
  | (k, q) :: r, n, a, b => by
    cases e : Nat.beq k n with
    | true =>
      have p : ∀ q c : MO, put ((k, q) :: r) n c = (k, c) :: r := fun q c => by unfold put; rw [e]
      rw [p, p, p]
    | false =>
      have p : ∀ (q c : MO) (r : List (Nat × MO)), put ((k, q) :: r) n c = (k, q) :: put r n c := fun q c r => by conv => lhs; unfold put; rw [e]
      rw [p, p, p, put_put r n a b]
theorem set_set {a b : MO} : (S.set n a).set n b = S.set n b := congrArg (Sto.mk S.nx) (put_put S.ob n a b)
theorem new_set {a b : MO} : (S.new a).set S.nx b = S.new b := by
  show Sto.mk (S.nx + 1) (put ((S.nx, a) :: S.ob) S.nx b) = ⟨S.nx + 1, (S.nx, b) :: S.ob⟩
  unfold put
  rw [Nat.beq_refl]
def up (S : Sto) : Sto := ⟨S.nx + 1, S.ob⟩
theorem cut_none : ∀ (o : List (Nat × MO)) (n : Nat), look o n = none → cut o n = o
  | [], _, _ => rfl
  | (k, q) :: r, n, h => by
    unfold look at h
    unfold cut
    cases e : Nat.beq k n with
    | true => rw [e] at h; cases h
    | false => rw [e] at h; rw [cut_none r n h]
theorem new_del {a : MO} (o : Ok S) : (S.new a).del S.nx = up S := by
  show Sto.mk (S.nx + 1) (cut ((S.nx, a) :: S.ob) S.nx) = ⟨S.nx + 1, S.ob⟩
  unfold cut
  rw [Nat.beq_refl]
  show Sto.mk (S.nx + 1) (cut S.ob S.nx) = ⟨S.nx + 1, S.ob⟩
  rw [cut_none S.ob S.nx (o S.nx (Nat.le_refl _))]
theorem Ok.up (o : Ok S) : Ok (up S) := fun k h => o k (Nat.le_of_succ_le h)
theorem Ok.new {a : MO} (o : Ok S) : Ok (S.new a) := fun k h => by
  have h : S.nx + 1 ≤ k := h
  rw [look_new_ne (by omega)]; exact o k (by omega)
theorem Src.up (s : Src S n m cs l x t) : Src (Lw.up S) n m cs l x t := ⟨s.d, s.c, s.ne, Nat.lt_succ_of_lt s.nn, Nat.lt_succ_of_lt s.mn, s.ok.up, s.l0, s.cs0⟩
theorem Src.new {a : MO} (s : Src S n m cs l x t) : Src (S.new a) n m cs l x t :=
  ⟨by rw [look_new_ne (Nat.ne_of_lt s.nn)]; exact s.d, by rw [look_new_ne (Nat.ne_of_lt s.mn)]; exact s.c, s.ne, Nat.lt_succ_of_lt s.nn, Nat.lt_succ_of_lt s.mn, s.ok.new, s.l0, s.cs0⟩
theorem Src.other {k : Nat} {q : MO} (s : Src S n m cs l x t) (h1 : n ≠ k) (h2 : m ≠ k) (h3 : k < S.nx) : Src (S.set k q) n m cs l x t :=
  ⟨by rw [at_set_ne h1]; exact s.d, by rw [at_set_ne h2]; exact s.c, s.ne, s.nn, s.mn, s.ok.set h3, s.l0, s.cs0⟩
theorem frz_new {ds : List D} (o : Ok S) : frz (.ref S.nx) (S.new (MO.lst ds)) = .ok (.lst ds) (Lw.up S) := by
  unfold frz
  dsimp only
  rw [look_new]
  dsimp only
  rw [new_del o]
theorem frz_newD {ds : List (Key × D)} (o : Ok S) : frz (.ref S.nx) (S.new (MO.dct ds)) = .ok (.dct ds) (Lw.up S) := by
  unfold frz
  dsimp only
  rw [look_new]
  dsimp only
  rw [new_del o]
/-- a comprehension whose turns change nothing -/
theorem loopC_map {gt : D → Ga → Sto → Option Ga} {ft : DT} {fe : DE} {Γ : Ga} {F : D → D} {G : D → Ga} : ∀ (ds acc : List D), acc.length + ds.length ≤ 1000 →
    (∀ d ∈ ds, ∀ acc', gt d Γ (S.new (.lst acc')) = some (G d) ∧ ft (G d) (S.new (.lst acc')) = .ok true (S.new (.lst acc')) ∧ fe (G d) (S.new (.lst acc')) = .ok (F d) (S.new (.lst acc'))) →
    loopC gt ft fe Γ S.nx ds (S.new (.lst acc)) = some (S.new (.lst (acc ++ ds.map F)))
  | [], acc, _, _ => by rw [List.map_nil, List.append_nil]; rfl
  | d :: ds, acc, hl, h => by
    obtain ⟨h1, h2, h3⟩ := h d List.mem_cons_self acc
    unfold loopC
    rw [h1]
    dsimp only
    rw [h2]
    dsimp only
    rw [h3]
    dsimp only
    rw [look_new]
    dsimp only
    have hk : lineOk (acc.length + 1) = true := Nat.ble_eq_true_of_le (by simp at hl; omega)
    rw [hk]
    dsimp only
    rw [new_set, loopC_map ds (acc ++ [F d]) (by simp at hl ⊢; omega) fun e he => h e (List.mem_cons_of_mem _ he), List.append_assoc]
    rfl
theorem dLc_ok {fin : D → Sto → Res D} {fi : DI} {gt : D → Ga → Sto → Option Ga} {ft : DT} {fe : DE} {vs : List Nat} {Γ : Ga} {S0 : Sto} {F : D → D} {G : D → Ga} {ds : List D} (hi : fi Γ S0 = .ok (ds, .no) S) (hl : ds.length ≤ 1000)
    (h : ∀ d ∈ ds, ∀ acc', gt d (wipeG Γ vs) (S.new (.lst acc')) = some (G d) ∧ ft (G d) (S.new (.lst acc')) = .ok true (S.new (.lst acc')) ∧ fe (G d) (S.new (.lst acc')) = .ok (F d) (S.new (.lst acc'))) :
    dLc fin fi gt ft fe vs Γ S0 = fin (.ref S.nx) (S.new (.lst (ds.map F))) := by
  unfold dLc
  rw [hi]
  show (match loopC gt ft fe (wipeG Γ vs) S.nx ds (S.new (.lst [])) with
    | some S2 => (match unl .no S2 with
      | some S3 => fin (.ref S.nx) S3
      | none => .bad)
    | none => .bad) = _
  rw [loopC_map ds [] (by simpa using hl) h]
  rfl
end
/-! ### the source, made -/
theorem for_no {fi : DI} {gt : D → Ga → Sto → Option Ga} {body : DS} {Γ : Ga} {S S1 : Sto} {ds : List D} (h : fi Γ S = .ok (ds, .no) S1) : sFor fi gt body Γ S = unlS .no (loopD gt body ds Γ S1) := by unfold sFor; rw [h]; rfl
def absD : D → D
  | .int i => .int (absI i)
  | d => d
theorem nthD_get {α : Type} : ∀ (ds : List α) (j : Nat), nthD ds j = ds[j]?
  | [], _ => rfl
  | a :: r, 0 => rfl
  | a :: r, k + 1 => nthD_get r k
theorem itemD_in {α : Type} {ds : List α} {i : Int} (h0 : 0 ≤ i) (h : i < ds.length) : itemD ds i = nthD ds i.toNat := by
  obtain ⟨k, rfl⟩ := Int.eq_ofNat_of_zero_le h0
  unfold itemD
  show (match (match Nat.blt k ds.length with | true => some k | false => none) with | some j => nthD ds j | none => none) = _
  rw [show Nat.blt k ds.length = true from Nat.ble_eq_true_of_le (by omega)]
  rfl
theorem upto_mem : ∀ (n : Nat) (lo : Int) (d : D), d ∈ upto lo n → ∃ k, d = .int k ∧ lo ≤ k ∧ k < lo + n
  | 0, _, _, h => nomatch h
  | n + 1, lo, d, h => by
    rcases List.mem_cons.mp (show d ∈ D.int lo :: upto (lo + 1) n from h) with rfl | h
    · exact ⟨lo, rfl, Int.le_refl _, by omega⟩
    · obtain ⟨k, e, h1, h2⟩ := upto_mem n (lo + 1) d h
      exact ⟨k, e, by omega, by omega⟩
theorem upto_len : ∀ (n : Nat) (lo : Int), (upto lo n).length = n
  | 0, _ => rfl
  | n + 1, lo => by show (upto (lo + 1) n).length + 1 = _; rw [upto_len]
theorem ints_of : ∀ (R : List D), (∀ d ∈ R, ∃ c, d = .int c ∧ 0 ≤ c) → ∃ cs : List Int, R = cs.map D.int ∧ (∀ c ∈ cs, 0 ≤ c) ∧ cs.length = R.length
  | [], _ => ⟨[], rfl, (fun _ h => nomatch h), rfl⟩
  | d :: R, h => by
    obtain ⟨c, rfl, hc⟩ := h _ List.mem_cons_self
    obtain ⟨cs, e, h1, h2⟩ := ints_of R fun d hd => h d (List.mem_cons_of_mem _ hd)
    refine ⟨c :: cs, by rw [e]; rfl, fun c' hc' => ?_, by simp [h2]⟩
    rcases List.mem_cons.mp hc' with rfl | hc'
    · exact hc
    · exact h1 _ hc'
/-! ### what is drawn -/
def Sr (S : Sto) (n m : Nat) : Prop := ∃ cs l x t, Src S n m cs l x t ∧ cs.length ≤ 63
section
variable {S : Sto} {n m : Nat}
theorem Sr.ok (s : Sr S n m) : Ok S := let ⟨_, _, _, _, h, _⟩ := s; h.ok
theorem Sr.up (s : Sr S n m) : Sr (Lw.up S) n m := let ⟨a, b, c, d, h, e⟩ := s; ⟨a, b, c, d, h.up, e⟩
theorem Sr.new {a : MO} (s : Sr S n m) : Sr (S.new a) n m := let ⟨q, b, c, d, h, e⟩ := s; ⟨q, b, c, d, h.new, e⟩
theorem Sr.other {k : Nat} {q : MO} (s : Sr S n m) (h1 : n ≠ k) (h2 : m ≠ k) (h3 : k < S.nx) : Sr (S.set k q) n m := let ⟨a, b, c, d, h, e⟩ := s; ⟨a, b, c, d, h.other h1 h2 h3, e⟩
theorem Sr.nn (s : Sr S n m) : n < S.nx ∧ m < S.nx := let ⟨_, _, _, _, h, _⟩ := s; ⟨h.nn, h.mn⟩
theorem Sr.del {k : Nat} (s : Sr S n m) (h1 : n ≠ k) (h2 : m ≠ k) : Sr (S.del k) n m := by
  obtain ⟨a, b, c, d, h, e⟩ := s
  have q : ∀ j, j ≠ k → (S.del k).at j = S.at j := fun j hj => look_cut_ne hj
  refine ⟨a, b, c, d, ⟨by rw [q n h1]; exact h.d, by rw [q m h2]; exact h.c, h.ne, h.nn, h.mn, fun j hj => ?_, h.l0, h.cs0⟩, e⟩
  by_cases z : j = k
  · subst z; exact look_cut_same
  · rw [q j z]; exact h.ok j hj
theorem call_ok {n : Nat} {f : List D → Sto → Res D} {fr : DA} {Γ : Ga} {ds : List D} {S1 : Sto} (h : fr Γ S = .ok ds S1) (hl : lenIs n ds = true) : dCall n f fr Γ S = f ds S1 := by
  unfold dCall; rw [h]; show guard (lenIs n ds) (f ds S1) = _; rw [hl]; rfl
end
theorem acons {fa : DE} {fr : DA} {Γ : Ga} {a : D} {ds : List D} {S S1 S2 : Sto} (h : fa Γ S = .ok a S1) (h2 : fr Γ S1 = .ok ds S2) : aCons fa fr Γ S = .ok (a :: ds) S2 := by
  unfold aCons; rw [h]; show Res.bind (fr Γ S1) _ = _; rw [h2]; rfl
theorem lst_ok {fr : DA} {Γ : Ga} {ds : List D} {S S1 : Sto} (h : fr Γ S = .ok ds S1) (hl : ds.length ≤ 1000) : dLst fr Γ S = .ok (.lst ds) S1 := by
  unfold dLst; rw [h]; show guard (lineOk ds.length) _ = _
  rw [show lineOk ds.length = true from Nat.ble_eq_true_of_le (by omega)]; rfl
theorem frzE {fa : DE} {Γ : Ga} {a b : D} {S S1 S2 : Sto} (h : fa Γ S = .ok a S1) (h2 : frz a S1 = .ok b S2) : dFrz fa Γ S = .ok b S2 := by
  unfold dFrz; rw [h]; exact h2
section
variable {S : Sto}
def flipB (neg r : Bool) : Bool := match r with
  | true => !neg
  | false => neg
/-- x in a list or tuple: no text is looked through, no dict -/
theorem in_seq {neg : Bool} {x : Str} {b : D} {ds : List D} {r : Bool} (h0 : kdV b = none) (h1 : dctV S b = none) (hb : ∀ z, b ≠ .str z) (h2 : seqV S b = some ds) (h3 : inD (.str x) ds = some r) : fInK neg (.str x) b S = .ok (.bl (flipB neg r)) S := by
  unfold fInK
  rw [h0]
  show fIn neg (.str x) b S = _
  unfold fIn
  rw [h1]
  dsimp only
  split
  · exact absurd rfl (hb _)
  · rw [h2]
    show guard true (match inD (.str x) ds with | some e => Res.ok (D.bl (match e with | true => !neg | false => neg)) S | none => Res.bad) = _
    rw [h3]; cases r <;> rfl
theorem eqS_symm (x y : Str) : eqS x y = eqS y x := by
  rw [eqS_eq, eqS_eq]
  exact decide_eq_decide.mpr ⟨Eq.symm, Eq.symm⟩
theorem len_ne {fa fb : DE} {Γ : Ga} {a b : Nat} (h : fa Γ S = .ok (.int a) S) (h2 : fb Γ S = .ok (.int b) S) : t2 fNeX fa fb Γ S = .ok (!Nat.beq a b) S := by
  rw [t2_ok h h2]
  show Res.ok (!eqB (a : Int) (b : Int)) S = _
  rw [eqB_eq]
  congr 2
  cases e : Nat.beq a b with
  | true => exact decide_eq_true (by rw [Nat.eq_of_beq_eq_true e])
  | false =>
    refine decide_eq_false fun z => ?_
    have z : a = b := Int.ofNat.inj z
    rw [z, Nat.beq_refl] at e
    cases e
end
theorem loopC_filt {S : Sto} {gt : D → Ga → Sto → Option Ga} {ft : DT} {fe : DE} {Γ : Ga} {F : D → D} {B : D → Bool} {G : D → Ga} : ∀ (ds acc : List D), acc.length + ds.length ≤ 1000 →
    (∀ d ∈ ds, ∀ acc', gt d Γ (S.new (.lst acc')) = some (G d) ∧ ft (G d) (S.new (.lst acc')) = .ok (B d) (S.new (.lst acc')) ∧ fe (G d) (S.new (.lst acc')) = .ok (F d) (S.new (.lst acc'))) →
    loopC gt ft fe Γ S.nx ds (S.new (.lst acc)) = some (S.new (.lst (acc ++ (ds.filter B).map F)))
  | [], acc, _, _ => by rw [List.filter_nil, List.map_nil, List.append_nil]; rfl
  | d :: ds, acc, hl, h => by
    obtain ⟨h1, h2, h3⟩ := h d List.mem_cons_self acc
    unfold loopC
    rw [h1]
    dsimp only
    rw [h2]
    cases e : B d with
    | false =>
      dsimp only
      rw [loopC_filt ds acc (by simp at hl ⊢; omega) fun e he => h e (List.mem_cons_of_mem _ he), List.filter_cons_of_neg (by rw [e]; decide)]
    | true =>
      dsimp only
      rw [h3]
      dsimp only
      rw [look_new]
      dsimp only
      have hk : lineOk (acc.length + 1) = true := Nat.ble_eq_true_of_le (by simp at hl; omega)
      rw [hk]
      dsimp only
      rw [new_set, loopC_filt ds (acc ++ [F d]) (by simp at hl ⊢; omega) fun e he => h e (List.mem_cons_of_mem _ he), List.append_assoc, List.filter_cons_of_pos e]
      rfl
theorem dLc_filt {S : Sto} {fin : D → Sto → Res D} {fi : DI} {gt : D → Ga → Sto → Option Ga} {ft : DT} {fe : DE} {vs : List Nat} {Γ : Ga} {S0 : Sto} {F : D → D} {B : D → Bool} {G : D → Ga} {ds : List D} (hi : fi Γ S0 = .ok (ds, .no) S) (hl : ds.length ≤ 1000)
    (h : ∀ d ∈ ds, ∀ acc', gt d (wipeG Γ vs) (S.new (.lst acc')) = some (G d) ∧ ft (G d) (S.new (.lst acc')) = .ok (B d) (S.new (.lst acc')) ∧ fe (G d) (S.new (.lst acc')) = .ok (F d) (S.new (.lst acc'))) :
    dLc fin fi gt ft fe vs Γ S0 = fin (.ref S.nx) (S.new (.lst ((ds.filter B).map F))) := by
  unfold dLc
  rw [hi]
  show (match loopC gt ft fe (wipeG Γ vs) S.nx ds (S.new (.lst [])) with
    | some S2 => (match unl .no S2 with
      | some S3 => fin (.ref S.nx) S3
      | none => .bad)
    | none => .bad) = _
  rw [loopC_filt ds [] (by simpa using hl) h]
  rfl
theorem put_step {S : Sto} {kds : List (Key × D)} {k v : D} {key : Key} (hk : keyOf k = some key) (hl : kds.length + 1 ≤ 1000) : fPutD (.ref S.nx) k v (S.new (.dct kds)) = some (S.new (.dct (putG eqK kds key v))) := by
  unfold fPutD onS
  dsimp only
  rw [look_new]
  dsimp only
  rw [hk]
  show ifS (lineOk (kds.length + 1)) ((S.new (.dct kds)).set S.nx (.dct (putG eqK kds key v))) = _
  rw [new_set, show lineOk (kds.length + 1) = true from Nat.ble_eq_true_of_le (by omega)]; rfl
theorem putAll_step {S : Sto} {kds kds' : List (Key × D)} {k v : D} {key : Key} {r : List (D × D)} (hk : keyOf k = some key) (hl : Nat.ble (kds.length + 1) 1000 = true) (he : putG eqK kds key v = kds') : Pd.putAll S.nx ((k, v) :: r) (S.new (.dct kds)) = Pd.putAll S.nx r (S.new (.dct kds')) := by
  conv => lhs; unfold Pd.putAll
  rw [put_step hk (Nat.le_of_ble_eq_true hl), he]
def anyS : List Str → Str → Bool
  | [], _ => false
  | y :: r, x => (match eqS y x with
    | true => true
    | false => anyS r x)
theorem inD_strs {x : Str} : ∀ l : List Str, inD (.str x) (l.map D.str) = some (anyS l x)
  | [] => rfl
  | y :: r => by
    show (match inD (.str x) (r.map D.str) with | some b => (match eqS y x with | true => some true | false => some b) | none => none) = some (match eqS y x with | true => true | false => anyS r x)
    rw [inD_strs r]
    cases eqS y x <;> rfl
inductive Ups (S : Sto) : Sto → Prop
  | refl : Ups S S
  | up {S' : Sto} (h : Ups S S') : Ups S (Lw.up S')
section
variable {S S' : Sto} {n m : Nat}
theorem Sr.ups (s : Sr S n m) (u : Ups S S') : Sr S' n m := by induction u with
  | refl => exact s
  | up _ ih => exact ih.up
end
end Lw

/-! k00: the source of numbers, a number drawn -/
namespace Lw
open L2 PySem PySem.Spec PyProof.Rows Pd
abbrev tst : DT := (dAnd (t2 fLt (d2 fIx (dVar 0) (dC (.str (⟨#[108, 101, 102, 116]⟩ : Str)))) (dC (.int 2))) (t2 fGt (dCB gLen (aCons (dVar 2) aNil)) (dC (.int 0))))
abbrev bdy : DS := (sPut (dBM isL gPop (dVar 2) aNil) (dVar 0) (dC (.str (⟨#[108, 101, 102, 116]⟩ : Str))))
theorem while_ok {n m : Nat} {x t : Int} {v : D} : ∀ (fuel : Nat) (cs : List Int) (S : Sto) (l : Int), cs.length < fuel → Src S n m cs l x t → ∃ S' cs' l', loopW tst bdy fuel [some (.ref n), some v, some (.ref m), none, none, none] S = .nx [some (.ref n), some v, some (.ref m), none, none, none] S' ∧ Src S' n m cs' l' x t ∧ cs'.length ≤ cs.length ∧ S'.nx = S.nx ∧ Fr2 n m S S'
  | 0, _, _, _, h, _ => absurd h (Nat.not_lt_zero _)
  | fuel + 1, cs, S, l, h, s => by
    have e1 : (t2 fLt (d2 fIx (dVar 0) (dC (.str kLeft))) (dC (.int 2))) [some (.ref n), some v, some (.ref m), none, none, none] S = .ok (ltB l 2) S := by
      rw [t2_ok (d2_ok (f := fIx) (a := .ref n) (b := .str kLeft) rfl rfl |>.trans (ix_d s.d rfl)) (b := .int 2) rfl]; rfl
    have e2 : (t2 fGt (dCB gLen (aCons (dVar 2) aNil)) (dC (.int 0))) [some (.ref n), some v, some (.ref m), none, none, none] S = .ok (ltB 0 (cs.length : Int)) S := by
      have q : dCB gLen (aCons (dVar 2) aNil) [some (.ref n), some v, some (.ref m), none, none, none] S = .ok (.int cs.length) S := by
        show gLen [.ref m] S = _
        show (match (match lstV S (.ref m) with | some ds => some ds.length | none => (match dctV S (.ref m) with | some ks => some ks.length | none => (match dttV S (.ref m) with | some ks => some ks.length | none => none))) with | some n => Res.ok (D.int n) S | none => .bad) = _
        rw [lstV_at s.c]
        show Res.ok (D.int ((cs.map D.int).length : Nat)) S = _
        rw [List.length_map]
      rw [t2_ok q (b := .int 0) rfl]; rfl
    cases c1 : ltB l 2 with
    | false =>
      refine ⟨S, cs, l, ?_, s, Nat.le_refl _, rfl, .refl⟩
      unfold loopW
      have : tst [some (.ref n), some v, some (.ref m), none, none, none] S = .ok false S := by
        show Res.bind ((t2 fLt (d2 fIx (dVar 0) (dC (.str kLeft))) (dC (.int 2))) [some (.ref n), some v, some (.ref m), none, none, none] S) _ = _
        rw [e1, c1]; rfl
      rw [this]; rfl
    | true =>
      rcases List.eq_nil_or_concat cs with hc | ⟨ds, z, hc⟩ <;> (try rw [List.concat_eq_append] at hc)
      · subst hc
        refine ⟨S, [], l, ?_, s, Nat.le_refl _, rfl, .refl⟩
        unfold loopW
        have : tst [some (.ref n), some v, some (.ref m), none, none, none] S = .ok false S := by
          show Res.bind ((t2 fLt (d2 fIx (dVar 0) (dC (.str kLeft))) (dC (.int 2))) [some (.ref n), some v, some (.ref m), none, none, none] S) _ = _
          rw [e1, c1]; exact e2
        rw [this]; rfl
      · subst hc
        have hz : 0 ≤ z := s.cs0 z (by simp)
        obtain ⟨p1, s1⟩ := s.pop
        obtain ⟨p2, s2⟩ := s1.left hz
        have hlen : ds.length < fuel := by simp at h; omega
        obtain ⟨S', cs', l', q1, q2, q3, q4, q5⟩ := while_ok fuel ds _ z hlen s2
        refine ⟨S', cs', l', ?_, q2, by simp; omega, q4, ((Fr2.setm (S := S)).trans .setn).trans q5⟩
        rw [← q1]
        conv => lhs; unfold loopW
        have e3 : tst [some (.ref n), some v, some (.ref m), none, none, none] S = .ok true S := by
          show Res.bind ((t2 fLt (d2 fIx (dVar 0) (dC (.str kLeft))) (dC (.int 2))) [some (.ref n), some v, some (.ref m), none, none, none] S) _ = _
          rw [e1, c1]
          show (t2 fGt (dCB gLen (aCons (dVar 2) aNil)) (dC (.int 0))) [some (.ref n), some v, some (.ref m), none, none, none] S = _
          rw [e2, ltB_eq]
          rw [decide_eq_true (by simp)]
        have e4 : bdy [some (.ref n), some v, some (.ref m), none, none, none] S = .nx [some (.ref n), some v, some (.ref m), none, none, none] ((S.set m (.lst (ds.map D.int))).set n (sd m z x t)) := by
          refine put_nx (v := .int z) (o := .ref n) (i := .str kLeft) ?_ rfl rfl p2
          show guard (isL S (.ref m)) (gPop (.ref m) [] S) = _
          have : isL S (.ref m) = true := by unfold isL; rw [lstV_at s.c]
          rw [this, ← p1]; rfl
        rw [e3]
        show (match bdy [some (.ref n), some v, some (.ref m), none, none, none] S with
          | .nx Γ2 S2 => loopW tst bdy fuel Γ2 S2
          | .ct Γ2 S2 => loopW tst bdy fuel Γ2 S2
          | .bk Γ2 S2 => .nx Γ2 S2
          | o => o) = _
        rw [e4]
abbrev gP (n : Nat) (k : Int) (a b c d : Option D) : Ga := [some (.ref n), some (.int k), a, b, c, d]
theorem pick_ok {S : Sto} {n m : Nat} {cs : List Int} {l x t k : Int} (hk : 1 ≤ k) (hk2 : k ≤ 1000000) (s : Src S n m cs l x t) (hl : cs.length ≤ 63) :
    ∃ i S' cs' l' t', f13 [.ref n, .int k] S = .ok (.int i) S' ∧ 0 ≤ i ∧ i < k ∧ Src S' n m cs' l' x t' ∧ cs'.length ≤ 63 ∧ S'.nx = S.nx ∧ Fr2 n m S S' := by
  by_cases h2 : k < 2
  · refine ⟨0, S, cs, l, t, ?_, Int.le_refl 0, by omega, s, hl, rfl, .refl⟩
    show endD (den13 (gP n k none none none none) S) = _
    have h1 : t2 fLt (dVar 1) (dC (.int 2)) (gP n k none none none none) S = .ok true S := by
      rw [t2_ok (a := .int k) (b := .int 2) rfl rfl]
      show Res.ok (ltB k 2) S = _
      rw [ltB_eq, decide_eq_true h2]
    unfold den13
    rw [seq_rt ((if_t h1).trans (ret_rt rfl))]
    rfl
  · have h1 : t2 fLt (dVar 1) (dC (.int 2)) (gP n k none none none none) S = .ok false S := by
      rw [t2_ok (a := .int k) (b := .int 2) rfl rfl]
      show Res.ok (ltB k 2) S = _
      rw [ltB_eq, decide_eq_false h2]
    have e2 : sSet (d2 fIx (dVar 0) (dC (.str kCells))) 2 (gP n k none none none none) S = .nx (gP n k (some (.ref m)) none none none) S := set_nx ((d2_ok rfl rfl).trans (ix_d s.d rfl))
    obtain ⟨S1, cs1, l1, e3, s1, hl1, n1, f1⟩ := while_ok (v := .int k) 100000 cs S l (by omega) s
    have e4 : sSet (d2 fIx (dVar 0) (dC (.str kLeft))) 3 (gP n k (some (.ref m)) none none none) S1 = .nx (gP n k (some (.ref m)) (some (.int l1)) none none) S1 := set_nx ((d2_ok rfl rfl).trans (ix_d s1.d rfl))
    have e1 : sIf (t2 fLt (dVar 1) (dC (.int 2))) (sRet (dC (.int 0))) sNil (gP n k none none none none) S = .nx (gP n k none none none none) S := (if_f h1).trans rfl
    by_cases h3 : 1 < l1
    · have g3 : t2 fGt (dVar 3) (dC (.int 1)) (gP n k (some (.ref m)) (some (.int l1)) none none) S1 = .ok true S1 := by
        rw [t2_ok (a := .int l1) (b := .int 1) rfl rfl]
        show Res.ok (ltB 1 l1) S1 = _
        rw [ltB_eq, decide_eq_true h3]
      have hd0 : 0 ≤ l1.fdiv k := Int.fdiv_nonneg s1.l0 (by omega)
      obtain ⟨p1, s2⟩ := s1.left hd0
      have e5 : sPut (d2 fDiv (dVar 3) (dVar 1)) (dVar 0) (dC (.str kLeft)) (gP n k (some (.ref m)) (some (.int l1)) none none) S1 = .nx (gP n k (some (.ref m)) (some (.int l1)) none none) (S1.set n (sd m (l1.fdiv k) x t)) :=
        put_nx ((d2_ok rfl rfl).trans (div_ok (by omega) (by omega))) rfl rfl p1
      have e6 : sRet (d2 fMod (dCB gInt (aCons (dVar 3) aNil)) (dVar 1)) (gP n k (some (.ref m)) (some (.int l1)) none none) (S1.set n (sd m (l1.fdiv k) x t)) = .rt (.int (l1.fmod k)) (S1.set n (sd m (l1.fdiv k) x t)) :=
        ret_rt ((d2_ok (int_ok rfl) rfl).trans (mod_ok (by omega)))
      have b := fmod_in (i := l1) (j := k) (by omega)
      refine ⟨l1.fmod k, _, cs1, _, t, ?_, b.1, b.2, s2, by omega, n1, f1.trans .setn⟩
      show endD (den13 (gP n k none none none none) S) = _
      unfold den13
      rw [seq_nx e1, seq_nx e2, seq_nx e3, seq_nx e4, seq_rt ((if_t g3).trans ((seq_nx e5).trans e6))]
      rfl
    · have g3 : t2 fGt (dVar 3) (dC (.int 1)) (gP n k (some (.ref m)) (some (.int l1)) none none) S1 = .ok false S1 := by
        rw [t2_ok (a := .int l1) (b := .int 1) rfl rfl]
        show Res.ok (ltB 1 l1) S1 = _
        rw [ltB_eq, decide_eq_false h3]
      have e5 : sIf (t2 fGt (dVar 3) (dC (.int 1))) (sSeq (sPut (d2 fDiv (dVar 3) (dVar 1)) (dVar 0) (dC (.str kLeft))) (sRet (d2 fMod (dCB gInt (aCons (dVar 3) aNil)) (dVar 1)))) sNil (gP n k (some (.ref m)) (some (.int l1)) none none) S1 = .nx (gP n k (some (.ref m)) (some (.int l1)) none none) S1 := (if_f g3).trans rfl
      obtain ⟨p1, s2⟩ := s1.turn (v := t + 1)
      have e6 : sPut (d2 fAdd (d2 fIx (dVar 0) (dC (.str kTurn))) (dC (.int 1))) (dVar 0) (dC (.str kTurn)) (gP n k (some (.ref m)) (some (.int l1)) none none) S1 = .nx (gP n k (some (.ref m)) (some (.int l1)) none none) (S1.set n (sd m l1 x (t + 1))) :=
        put_nx (add_ok ((d2_ok rfl rfl).trans (ix_d s1.d rfl)) rfl) rfl rfl p1
      have e7 : sSet (d2 fIx (dVar 0) (dC (.str kTurn))) 4 (gP n k (some (.ref m)) (some (.int l1)) none none) (S1.set n (sd m l1 x (t + 1))) = .nx (gP n k (some (.ref m)) (some (.int l1)) (some (.int (t + 1))) none) (S1.set n (sd m l1 x (t + 1))) := set_nx ((d2_ok rfl rfl).trans (ix_d s2.d rfl))
      have e8 : sSet (d2 fMod (dCB gInt (aCons (d2 fAdd (d2 fIx (dVar 0) (dC (.str kMixed))) (d2 fMul (dVar 4) (dC (.int 104729)))) aNil)) (dC (.int 998244353))) 5 (gP n k (some (.ref m)) (some (.int l1)) (some (.int (t + 1))) none) (S1.set n (sd m l1 x (t + 1))) = .nx (gP n k (some (.ref m)) (some (.int l1)) (some (.int (t + 1))) (some (.int ((x + (t + 1) * 104729).fmod 998244353)))) (S1.set n (sd m l1 x (t + 1))) :=
        set_nx ((d2_ok (int_ok (add_ok ((d2_ok rfl rfl).trans (ix_d s2.d rfl)) ((d2_ok rfl rfl).trans (mul_ok (.inr rfl))))) rfl).trans (mod_ok (by decide)))
      have b1 := fmod_in (i := x + (t + 1) * 104729) (j := 998244353) (by decide)
      generalize (x + (t + 1) * 104729).fmod 998244353 = y at e8 b1
      have e9 : sSet (d2 fMod (dCB gInt (aCons (d2 fAdd (d2 fMul (dVar 5) (dVar 5)) (d2 fMul (dVar 4) (dC (.int 17)))) aNil)) (dC (.int 2147483647))) 5 (gP n k (some (.ref m)) (some (.int l1)) (some (.int (t + 1))) (some (.int y))) (S1.set n (sd m l1 x (t + 1))) = .nx (gP n k (some (.ref m)) (some (.int l1)) (some (.int (t + 1))) (some (.int ((y * y + (t + 1) * 17).fmod 2147483647)))) (S1.set n (sd m l1 x (t + 1))) :=
        set_nx ((d2_ok (int_ok (add_ok ((d2_ok rfl rfl).trans (mul_ok (.inl (small_of b1.1 (by omega))))) ((d2_ok rfl rfl).trans (mul_ok (.inr rfl))))) rfl).trans (mod_ok (by decide)))
      have b2 := fmod_in (i := y * y + (t + 1) * 17) (j := 2147483647) (by decide)
      generalize (y * y + (t + 1) * 17).fmod 2147483647 = z at e9 b2
      have e11 : sRet (d2 fMod (dCB gInt (aCons (d2 fDiv (dVar 5) (dC (.int 16))) aNil)) (dVar 1)) (gP n k (some (.ref m)) (some (.int l1)) (some (.int (t + 1))) (some (.int z))) (S1.set n (sd m l1 x (t + 1))) = .rt (.int ((z.fdiv 16).fmod k)) (S1.set n (sd m l1 x (t + 1))) :=
        ret_rt ((d2_ok (int_ok ((d2_ok rfl rfl).trans (div_ok (by decide) (by decide)))) rfl).trans (mod_ok (by omega)))
      have b := fmod_in (i := z.fdiv 16) (j := k) (by omega)
      refine ⟨(z.fdiv 16).fmod k, _, cs1, _, t + 1, ?_, b.1, b.2, s2, by omega, n1, f1.trans .setn⟩
      show endD (den13 (gP n k none none none none) S) = _
      unfold den13
      rw [seq_nx e1, seq_nx e2, seq_nx e3, seq_nx e4, seq_nx e5, seq_nx e6, seq_nx e7, seq_nx e8, seq_nx e9, e11]
      rfl
abbrev bod4 : DS := (sSet (d2 fMod (dCB gInt (aCons (d2 fAdd (d2 fAdd (d2 fMul (dVar 1) (dC (.int 69069))) (d2 fMul (dVar 2) (dC (.int 31)))) (dC (.int 5))) aNil)) (dC (.int 2147483629))) 1)
theorem loop4 {f : D} {S : Sto} : ∀ (ns : List Int) (y : Int) (c : Option D), ∃ y' c', loopD (gN 2) bod4 (ns.map D.int) [some f, some (.int y), c, none, none] S = .nx [some f, some (.int y'), c', none, none] S
  | [], y, c => ⟨y, c, rfl⟩
  | a :: ns, y, c => by
    have e : bod4 [some f, some (.int y), some (.int a), none, none] S = .nx [some f, some (.int ((y * 69069 + a * 31 + 5).fmod 2147483629)), some (.int a), none, none] S :=
      set_nx ((d2_ok (int_ok (add_ok (add_ok ((d2_ok rfl rfl).trans (mul_ok (.inr rfl))) ((d2_ok rfl rfl).trans (mul_ok (.inr rfl)))) rfl)) rfl).trans (mod_ok (by decide)))
    obtain ⟨y', c', q⟩ := loop4 ns ((y * 69069 + a * 31 + 5).fmod 2147483629) (some (.int a))
    refine ⟨y', c', ?_⟩
    show (match bod4 [some f, some (.int y), some (.int a), none, none] S with
      | .nx Γ2 S2 => loopD (gN 2) bod4 (ns.map D.int) Γ2 S2
      | .ct Γ2 S2 => loopD (gN 2) bod4 (ns.map D.int) Γ2 S2
      | .bk Γ2 S2 => .nx Γ2 S2
      | o => o) = _
    rw [e]
    exact q
def backD (ds : List D) : D → D
  | .int k => (nthD ds ((ds.length : Int) - 1 - k).toNat).getD .non
  | d => d
theorem src_ok (ns : List Int) (hl : ns.length ≤ 63) : ∃ (S : Sto) (cs : List Int) (x : Int), f12 [.frl (ns.map D.int)] S0 = .ok (.ref 1) S ∧ Src S 1 2 cs 1 x 0 ∧ cs.length ≤ 63 ∧ S.nx = 3 := by
  obtain ⟨y, c, q⟩ := loop4 (f := .frl (ns.map D.int)) (S := S0) ns 11 none
  have e1 : sSet (dC (.int 11)) 1 [some (.frl (ns.map D.int)), none, none, none, none] S0 = .nx [some (.frl (ns.map D.int)), some (.int 11), none, none, none] S0 := rfl
  have e2 : sFor (iAny (dVar 0)) (gN 2) bod4 [some (.frl (ns.map D.int)), some (.int 11), none, none, none] S0 = .nx [some (.frl (ns.map D.int)), some (.int y), c, none, none] S0 := by
    rw [for_no (ds := ns.map D.int) (S1 := S0) rfl, q]; rfl
  have e3 : sSet (dLc keep (iAny (dVar 0)) (gN 2) dYes (dCB gAbs (aCons (dVar 2) aNil)) [2]) 3 [some (.frl (ns.map D.int)), some (.int y), c, none, none] S0 = .nx [some (.frl (ns.map D.int)), some (.int y), c, some (.ref 0), none] (S0.new (.lst ((ns.map D.int).map absD))) := by
    refine set_nx ((dLc_ok (S := S0) (F := absD) (G := fun d => [some (.frl (ns.map D.int)), some (.int y), some d, none, none]) (ds := ns.map D.int) rfl (by simp; omega) fun d hd acc => ?_).trans rfl)
    obtain ⟨i, _, rfl⟩ := List.mem_map.mp hd
    exact ⟨rfl, rfl, rfl⟩
  generalize hD : (ns.map D.int).map absD = D1 at e3
  have lD : D1.length = ns.length := by rw [← hD]; simp
  have all0 : ∀ d ∈ D1, ∃ c, d = .int c ∧ 0 ≤ c := by
    rw [← hD]
    intro d hd
    obtain ⟨z, hz, rfl⟩ := List.mem_map.mp hd
    obtain ⟨i, _, rfl⟩ := List.mem_map.mp hz
    exact ⟨absI i, rfl, by cases i <;> exact Int.natCast_nonneg _⟩
  have hT : ((S0.new (.lst D1)).new (.dct [])).nx = 2 := rfl
  have lenT : ∀ (T : Sto), T.at 0 = some (.lst D1) → ∀ (a b d : Option D), dCB gLen (aCons (dVar 3) aNil) [a, b, d, some (.ref 0), none] T = .ok (.int D1.length) T := fun T h a b d => by
    show (match (match lstV T (.ref 0) with | some ds => some ds.length | none => (match dctV T (.ref 0) with | some ks => some ks.length | none => (match dttV T (.ref 0) with | some ks => some ks.length | none => none))) with | some n => Res.ok (D.int n) T | none => .bad) = _
    rw [lstV_at h]
  have lenT2 : ∀ (T : Sto), T.at 0 = some (.lst D1) → ∀ (a b d e : Option D), dCB gLen (aCons (dVar 3) aNil) [a, b, d, some (.ref 0), e] T = .ok (.int D1.length) T := fun T h a b d e => by
    show (match (match lstV T (.ref 0) with | some ds => some ds.length | none => (match dctV T (.ref 0) with | some ks => some ks.length | none => (match dttV T (.ref 0) with | some ks => some ks.length | none => none))) with | some n => Res.ok (D.int n) T | none => .bad) = _
    rw [lstV_at h]
  have hi : iNo (aBind (aCons (dCB gLen (aCons (dVar 3) aNil)) aNil) rng1) [some (.frl (ns.map D.int)), some (.int y), c, some (.ref 0), none] ((S0.new (.lst D1)).new (.dct [])) = .ok (upto 0 D1.length, .no) ((S0.new (.lst D1)).new (.dct [])) := by
    have ha := args1 (lenT2 ((S0.new (.lst D1)).new (.dct [])) rfl (some (.frl (ns.map D.int))) (some (.int y)) c none)
    show Res.bind (Res.bind (aCons (dCB gLen (aCons (dVar 3) aNil)) aNil [some (.frl (ns.map D.int)), some (.int y), c, some (.ref 0), none] ((S0.new (.lst D1)).new (.dct []))) rng1) _ = _
    rw [ha]
    show Res.bind (match mid (D1.length : Int) with | true => Res.ok (upto 0 ((D1.length : Int)).toNat) _ | false => .bad) _ = _
    rw [show mid (D1.length : Int) = true from Nat.ble_eq_true_of_le (by omega)]
    rfl
  have e4 : dLc keep (iNo (aBind (aCons (dCB gLen (aCons (dVar 3) aNil)) aNil) rng1)) (gN 4) dYes (d2 fIx (dVar 3) (d2 fSub (d2 fSub (dCB gLen (aCons (dVar 3) aNil)) (dC (.int 1))) (dVar 4))) [4] [some (.frl (ns.map D.int)), some (.int y), c, some (.ref 0), none] ((S0.new (.lst D1)).new (.dct [])) = .ok (.ref 2) (((S0.new (.lst D1)).new (.dct [])).new (.lst ((upto 0 D1.length).map (backD D1)))) := by
    refine (dLc_ok (S := (S0.new (.lst D1)).new (.dct [])) (F := backD D1) (G := fun d => [some (.frl (ns.map D.int)), some (.int y), c, some (.ref 0), some d]) hi (by rw [upto_len]; omega) fun d hd acc => ?_).trans rfl
    obtain ⟨k, rfl, h1, h2⟩ := upto_mem _ _ _ hd
    refine ⟨rfl, rfl, ?_⟩
    have r : d2 fSub (d2 fSub (dCB gLen (aCons (dVar 3) aNil)) (dC (.int 1))) (dVar 4) [some (.frl (ns.map D.int)), some (.int y), c, some (.ref 0), some (.int k)] (((S0.new (.lst D1)).new (.dct [])).new (.lst acc)) = .ok (.int ((D1.length : Int) - 1 - k)) (((S0.new (.lst D1)).new (.dct [])).new (.lst acc)) :=
      (d2_ok ((d2_ok (lenT2 _ rfl _ _ _ _) rfl).trans rfl) rfl).trans rfl
    refine (d2_ok rfl r).trans ?_
    show (match itemD D1 ((D1.length : Int) - 1 - k) with | some d => Res.ok d _ | none => .bad) = _
    rw [itemD_in (by omega) (by omega)]
    show _ = Res.ok ((nthD D1 ((D1.length : Int) - 1 - k).toNat).getD .non) _
    rw [nthD_get, List.getElem?_eq_getElem (by omega)]
    rfl
  obtain ⟨cs, hR, h0, hlen⟩ := ints_of ((upto 0 D1.length).map (backD D1)) fun d hd => by
    obtain ⟨e, he, rfl⟩ := List.mem_map.mp hd
    obtain ⟨k, rfl, h1, h2⟩ := upto_mem _ _ _ he
    show ∃ c', (nthD D1 ((D1.length : Int) - 1 - k).toNat).getD .non = .int c' ∧ 0 ≤ c'
    rw [nthD_get, List.getElem?_eq_getElem (by omega)]
    obtain ⟨i, e, h⟩ := all0 _ (List.getElem_mem (l := D1) (n := ((D1.length : Int) - 1 - k).toNat) (by omega))
    exact ⟨i, by rw [e]; rfl, h⟩
  refine ⟨(((S0.new (.lst D1)).new (.dct [])).new (.lst (cs.map D.int))).set 1 (sd 2 1 y 0), cs, y, ?_, ⟨rfl, rfl, by decide, by show 1 < 3; decide, by show 2 < 3; decide, ?_, by decide, h0⟩, by rw [hlen, List.length_map, upto_len]; omega, rfl⟩
  · show endD (den12 [some (.frl (ns.map D.int)), none, none, none, none] S0) = _
    unfold den12
    rw [seq_nx e1, seq_nx e2, seq_nx e3]
    rw [← hR, ret_rt (d := .ref 1) (S1 := (((S0.new (.lst D1)).new (.dct [])).new (.lst ((upto 0 D1.length).map (backD D1)))).set 1 (sd 2 1 y 0))]
    · rfl
    · unfold dDisp pCons
      show Res.bind (Res.bind (dLc keep (iNo (aBind (aCons (dCB gLen (aCons (dVar 3) aNil)) aNil) rng1)) (gN 4) dYes (d2 fIx (dVar 3) (d2 fSub (d2 fSub (dCB gLen (aCons (dVar 3) aNil)) (dC (.int 1))) (dVar 4))) [4] [some (.frl (ns.map D.int)), some (.int y), c, some (.ref 0), none] ((S0.new (.lst D1)).new (.dct []))) _) _ = _
      rw [e4]
      rfl
  · have o0 : Ok S0 := fun k _ => rfl
    exact Ok.set (o0.new.new.new) (by show 1 < 3; decide)
end Lw

/-! k00: the statements of the law, of _law_kept -/
namespace Lw
open L2 PySem PySem.Spec PyProof.Rows Pd
abbrev li0 : DS := (sIf (t2 fNeX (dCall 1 f14 (aCons (d2 fIx (dVar 7) (dVar 8)) aNil)) (dLc frz (iNo (aBind (aCons (dCB gLen (aCons (dVar 7) aNil)) aNil) rng1)) (gN 9) dYes (d2 fEqX (dVar 9) (dVar 8)) [9])) (sRet (dC (.bl false))) sNil)
abbrev li1 : DS := (sIf (t2 fNeX (dCall 1 f15 (aCons (d2 fIx (dVar 7) (dVar 8)) aNil)) (dLst (aCons (d2 fLt (dVar 8) (dC (.int 12))) (aCons (d2 fLt (dVar 8) (dC (.int 12))) (aCons (d2 fGe (dVar 8) (dC (.int 12))) (aCons (d2 fGe (dVar 8) (dC (.int 12))) aNil)))))) (sRet (dC (.bl false))) sNil)
abbrev lb0 : DS := (sSet (d2 fIx (dLst (aCons (dC (.str (⟨#[]⟩ : Str))) (aCons (dC (.str (⟨#[120]⟩ : Str))) (aCons (dC (.str (⟨#[110, 111, 32, 115, 117, 99, 104, 32, 110, 97, 109, 101]⟩ : Str))) (aCons (dC .non) (aCons (d2 fMulS (dC (.str (⟨#[120]⟩ : Str))) (dC (.int 100))) (aCons (dTup (aCons (dC (.str (⟨#[97]⟩ : Str))) aNil)) (aCons (dC (.int 0)) (aCons (dLst (aCons (dC (.str (⟨#[97]⟩ : Str))) (aCons (dFrz (dNewD false)) aNil))) aNil))))))))) (dCall 2 f13 (aCons (dVar 1) (aCons (dC (.int 8)) aNil)))) 4)
abbrev lb1 : DS := (sSet (d2 fIx (dLst (aCons (dC (.int 0)) (aCons (dC (.int 1)) (aCons (dC (.int 7)) (aCons (dC (.int 200)) (aCons (dVar 2) (aCons (dC (.int (-1))) (aCons (dC .non) aNil)))))))) (dCall 2 f13 (aCons (dVar 1) (aCons (dC (.int 7)) aNil)))) 5)
abbrev lb2 : DS := (sSet (d2 fIx (dLst (aCons (dLst (aCons (dC (.str (⟨#[97]⟩ : Str))) (aCons (dC (.str (⟨#[98]⟩ : Str))) aNil))) (aCons (dLst aNil) (aCons (dTup (aCons (dC (.str (⟨#[97]⟩ : Str))) aNil)) (aCons (dLst (aCons (dC (.int 0)) (aCons (dC (.int 1)) (aCons (dC (.int 0)) aNil)))) (aCons (dTup (aCons (dTup (aCons (dC (.str (⟨#[120]⟩ : Str))) (aCons (dC (.str (⟨#[121]⟩ : Str))) aNil))) aNil)) aNil)))))) (dCall 2 f13 (aCons (dVar 1) (aCons (dC (.int 5)) aNil)))) 6)
abbrev lb3 : DS := (sSet (dCall 3 f16 (aCons (dVar 4) (aCons (dVar 5) (aCons (dVar 6) aNil)))) 7)
abbrev lb4 : DS := (sFor (iNo (aBind (aCons (dCB gLen (aCons (dVar 7) aNil)) aNil) rng1)) (gN 8) (sSeq li0 li1))
abbrev lb5 : DS := (sIf (dOr (t2 fNeX (dCB gLen (aCons (dVar 7) aNil)) (dC (.int 15))) (dNot (dTr (dCall 4 f17 (aCons (dVar 7) (aCons (dVar 4) (aCons (dVar 5) (aCons (dVar 6) aNil)))))))) (sRet (dC (.bl false))) sNil)
abbrev lap : DS := (sSeq lb0 (sSeq lb1 (sSeq lb2 (sSeq lb3 (sSeq lb4 lb5)))))
abbrev l0 : DS := (sSet (dCall 1 f12 (aCons (dVar 0) aNil)) 1)
abbrev l1 : DS := (sSet (dCB gIntS (aCons (d2 fAdd (dC (.str (⟨#[49]⟩ : Str))) (d2 fMulS (dC (.str (⟨#[48]⟩ : Str))) (dC (.int 30)))) aNil)) 2)
theorem den18_eq : den18 = sSeq l0 (sSeq l1 (sSeq (sFor (iNo (aBind (aCons (dC (.int 2)) aNil) rng1)) (gN 3) lap) (sRet (dC (.bl true))))) := rfl
abbrev kt0 : DS := (sSet (dLst (aCons (dXf [11, 12, 21] 0 (d2 fIx (dVar 0) (dC (.int 3)))) (aCons (dXf [11, 12, 21] 0 (d2 fIx (dVar 0) (dC (.int 4)))) (aCons (dXf [13, 14, 15] 1 (d2 fIx (dVar 0) (dC (.int 5)))) (aCons (dXf [13, 14, 15] 1 (d2 fIx (dVar 0) (dC (.int 6)))) (aCons (dXf [13, 14, 15] 1 (d2 fIx (dVar 0) (dC (.int 7)))) (aCons (dXf [11, 12, 21] 0 (d2 fIx (dVar 0) (dC (.int 12)))) aNil))))))) 4)
abbrev kt1 : DS := (sIf (dOr (t2 fNeX (dCB gRepr (aCons (dVar 4) aNil)) (dCB gRepr (aCons (d2 fMul (dLst (aCons (dVar 1) aNil)) (dC (.int 6))) aNil))) (t2 fNeX (dCB gRepr (aCons (dLst (aCons (dXf [16, 17] 2 (d2 fIx (dVar 0) (dC (.int 8)))) (aCons (dXf [16, 17] 2 (d2 fIx (dVar 0) (dC (.int 9)))) aNil))) aNil)) (dCB gRepr (aCons (d2 fMul (dLst (aCons (dCB gTuple (aCons (dVar 3) aNil)) aNil)) (dC (.int 2))) aNil)))) (sRet (dC (.bl false))) sNil)
abbrev kt2 : DS := (sSet (dLst (aCons (dXf [18] 3 (d2 fIx (dVar 0) (dC (.int 10)))) (aCons (dXf [19] 4 (d2 fIx (dVar 0) (dC (.int 11)))) (aCons (dXf [22, 23] 5 (d2 fIx (dVar 0) (dC (.int 13)))) (aCons (dXf [22, 23] 5 (d2 fIx (dVar 0) (dC (.int 14)))) aNil))))) 5)
abbrev kt3 : DS := (sRet (d2 fEqX (dCB gRepr (aCons (dVar 5) aNil)) (dCB gRepr (aCons (d2 fMul (dLst (aCons (dVar 2) aNil)) (dC (.int 4))) aNil))))
theorem den17_eq : den17 = sSeq kt0 (sSeq kt1 (sSeq kt2 (kt3))) := rfl
end Lw

/-! k00: what is kept; a lap -/
namespace Lw
open L2 PySem PySem.Spec PyProof.Rows Pd
theorem pick_sr {S : Sto} {k : Int} (hk : 1 ≤ k) (hk2 : k ≤ 1000000) (s : Sr S 1 2) : ∃ i S', f13 [.ref 1, .int k] S = .ok (.int i) S' ∧ 0 ≤ i ∧ i < k ∧ Sr S' 1 2 := by
  obtain ⟨cs, l, x, t, s, hl⟩ := s
  obtain ⟨i, S', cs', l', t', e, h0, h1, s', hl', _⟩ := pick_ok hk hk2 s hl
  exact ⟨i, S', e, h0, h1, cs', l', x, t', s', hl'⟩
/-! ### texts -/
def okR (d : D) : Bool := match toR 20 d with
  | some p => fitsR p && okS p.shown
  | none => false
theorem repr_of {d : D} {S : Sto} (h : okR d = true) : ∃ t, okS t = true ∧ gRepr [d] S = .ok (.str t) S := by
  unfold okR at h
  cases e : toR 20 d with
  | none => rw [e] at h; cases h
  | some p =>
    rw [e] at h
    have h : (fitsR p && okS p.shown) = true := h
    obtain ⟨h, h2⟩ := Bool.and_eq_true_iff.mp h
    refine ⟨p.shown, h2, ?_⟩
    unfold gRepr
    dsimp only
    rw [e]
    show guard (fitsR p) _ = _
    rw [h]; rfl
theorem eqS_me (x : Str) : eqS x x = true := (eqS_iff x x).mpr rfl
theorem eqF_me {t : Str} : eqF 41 (.str t) (.str t) = true := by
  show eqS t t = true
  exact eqS_me t
theorem eqD_me {t : Str} {S : Sto} (h : okS t = true) : eqD S (.str t) (.str t) = some true := by
  have e : toPy 40 S (.str t) = some (.str t) := by
    show (match okS t with | true => some (PyData.str t) | false => none) = _
    rw [h]
  unfold eqD
  rw [e]
  exact congrArg some eqF_me
theorem eq_me {t : Str} {S : Sto} (h : okS t = true) : fEqX (.str t) (.str t) S = .ok (.bl true) S := by
  show (match eqD S (.str t) (.str t) with | some e => Res.ok (D.bl e) S | none => .bad) = _
  rw [eqD_me h]
theorem ne_me {t : Str} {S : Sto} (h : okS t = true) : fNeX (.str t) (.str t) S = .ok (.bl false) S := by
  show (match eqD S (.str t) (.str t) with | some e => Res.ok (D.bl (!e)) S | none => .bad) = _
  rw [eqD_me h] <;> rfl
theorem repr_ne {fa fb : DE} {Γ : Ga} {d : D} {S : Sto} (ha : fa Γ S = .ok d S) (hb : fb Γ S = .ok d S) (h : okR d = true) : t2 fNeX (dCB gRepr (aCons fa aNil)) (dCB gRepr (aCons fb aNil)) Γ S = .ok false S := by
  obtain ⟨t, ht, e⟩ := repr_of (S := S) h
  have q : ∀ f : DE, f Γ S = .ok d S → dCB gRepr (aCons f aNil) Γ S = .ok (.str t) S := fun f hf => by
    unfold dCB; rw [args1 hf]; exact e
  rw [t2_ok (q fa ha) (q fb hb), ne_me ht]; rfl
theorem repr_eq {fa fb : DE} {Γ : Ga} {d : D} {S : Sto} (ha : fa Γ S = .ok d S) (hb : fb Γ S = .ok d S) (h : okR d = true) : d2 fEqX (dCB gRepr (aCons fa aNil)) (dCB gRepr (aCons fb aNil)) Γ S = .ok (.bl true) S := by
  obtain ⟨t, ht, e⟩ := repr_of (S := S) h
  have q : ∀ f : DE, f Γ S = .ok d S → dCB gRepr (aCons f aNil) Γ S = .ok (.str t) S := fun f hf => by
    unfold dCB; rw [args1 hf]; exact e
  rw [d2_ok (q fa ha) (q fb hb), eq_me ht]
/-! ### the menus -/
def W8 : List D := [.str ⟨#[]⟩, .str ⟨#[120]⟩, .str ⟨#[110, 111, 32, 115, 117, 99, 104, 32, 110, 97, 109, 101]⟩, .non, .str (Txt.mul ⟨#[120]⟩ (.ofNat 100)), .tup [.str ⟨#[97]⟩], .int 0, .lst [.str ⟨#[97]⟩, .dct []]]
def great : D := .int 1000000000000000000000000000000
def N7 : List D := [.int 0, .int 1, .int 7, .int 200, great, .int (-1), .non]
def P5 : List (D × D) := [(.lst [.str ⟨#[97]⟩, .str ⟨#[98]⟩], .tup [.str ⟨#[97]⟩, .str ⟨#[98]⟩]), (.lst [], .tup []), (.tup [.str ⟨#[97]⟩], .tup [.str ⟨#[97]⟩]), (.lst [.int 0, .int 1, .int 0], .tup [.int 0, .int 1, .int 0]),
  (.tup [.tup [.str ⟨#[120]⟩, .str ⟨#[121]⟩]], .tup [.tup [.str ⟨#[120]⟩, .str ⟨#[121]⟩]])]
/-- all errors -/
def EL (wd nb tp : D) : List D := [.xn 8 [], .xn 9 [], .xn 10 [], .xn 11 [(0, wd)], .xn 12 [(0, wd)], .xn 13 [(1, wd)], .xn 14 [(1, wd)], .xn 15 [(1, wd)], .xn 16 [(2, tp)], .xn 17 [(2, tp)], .xn 18 [(3, nb)], .xn 19 [(4, nb)], .xn 21 [(0, wd)], .xn 22 [(5, nb)], .xn 23 [(5, nb)]]
theorem all_of {α : Type} {P : α → Prop} : ∀ {l : List α}, (∀ (i : Nat) (h : i < l.length), P l[i]) → ∀ a ∈ l, P a := fun h a ha => by
  obtain ⟨i, hi, rfl⟩ := List.getElem_of_mem ha
  exact h i hi
theorem w8_ok : ∀ wd ∈ W8, okR (.lst [wd, wd, wd, wd, wd, wd]) = true := by
  intro wd h
  simp only [W8, List.mem_cons, List.not_mem_nil, or_false] at h
  rcases h with rfl | rfl | rfl | rfl | rfl | rfl | rfl | rfl <;> kernel_rfl
theorem n7_ok : ∀ nb ∈ N7, okR (.lst [nb, nb, nb, nb]) = true := by
  intro nb h
  simp only [N7, List.mem_cons, List.not_mem_nil, or_false] at h
  rcases h with rfl | rfl | rfl | rfl | rfl | rfl | rfl <;> kernel_rfl
theorem p5_ok : ∀ p ∈ P5, okR (.lst [p.2, p.2]) = true ∧ ∀ S, gTuple [p.1] S = .ok p.2 S := by
  intro p h
  simp only [P5, List.mem_cons, List.not_mem_nil, or_false] at h
  rcases h with rfl | rfl | rfl | rfl | rfl <;> exact ⟨by kernel_rfl, fun S => by kernel_rfl⟩
/-! ### _law_every, _law_kept -/
theorem every_ok {wd nb : D} {S : Sto} : ∀ p ∈ P5, f16 [wd, nb, p.1] S = .ok (.lst (EL wd nb p.2)) S := by
  intro p h
  simp only [P5, List.mem_cons, List.not_mem_nil, or_false] at h
  rcases h with rfl | rfl | rfl | rfl | rfl <;> kernel_rfl
theorem kept_ok {wd nb : D} {S : Sto} (hw : wd ∈ W8) (hn : nb ∈ N7) : ∀ p ∈ P5, f17 [.lst (EL wd nb p.2), wd, nb, p.1] S = .ok (.bl true) S := by
  intro p hp
  obtain ⟨h1, h2⟩ := p5_ok p hp
  have e0 : kt0 [some (.lst (EL wd nb p.2)), some wd, some nb, some p.1, none, none] S = .nx [some (.lst (EL wd nb p.2)), some wd, some nb, some p.1, some (.lst [wd, wd, wd, wd, wd, wd]), none] S := by kernel_rfl
  have e1 : kt1 [some (.lst (EL wd nb p.2)), some wd, some nb, some p.1, some (.lst [wd, wd, wd, wd, wd, wd]), none] S = .nx [some (.lst (EL wd nb p.2)), some wd, some nb, some p.1, some (.lst [wd, wd, wd, wd, wd, wd]), none] S := by
    refine (if_f ?_).trans rfl
    show Res.bind (t2 fNeX (dCB gRepr (aCons (dVar 4) aNil)) (dCB gRepr (aCons (d2 fMul (dLst (aCons (dVar 1) aNil)) (dC (.int 6))) aNil)) _ S) _ = _
    rw [repr_ne (d := .lst [wd, wd, wd, wd, wd, wd]) rfl (by kernel_rfl) (w8_ok wd hw)]
    refine repr_ne (d := .lst [p.2, p.2]) (by kernel_rfl) ?_ h1
    have q : dLst (aCons (dCB gTuple (aCons (dVar 3) aNil)) aNil) [some (.lst (EL wd nb p.2)), some wd, some nb, some p.1, some (.lst [wd, wd, wd, wd, wd, wd]), none] S = .ok (.lst [p.2]) S :=
      lst_ok (args1 (by unfold dCB; rw [args1 rfl]; exact h2 S)) (by show 1 ≤ 1000; decide)
    rw [d2_ok q (b := .int 2) rfl]; rfl
  have e2 : kt2 [some (.lst (EL wd nb p.2)), some wd, some nb, some p.1, some (.lst [wd, wd, wd, wd, wd, wd]), none] S = .nx [some (.lst (EL wd nb p.2)), some wd, some nb, some p.1, some (.lst [wd, wd, wd, wd, wd, wd]), some (.lst [nb, nb, nb, nb])] S := by kernel_rfl
  have e3 : kt3 [some (.lst (EL wd nb p.2)), some wd, some nb, some p.1, some (.lst [wd, wd, wd, wd, wd, wd]), some (.lst [nb, nb, nb, nb])] S = .rt (.bl true) S := ret_rt (repr_eq (d := .lst [nb, nb, nb, nb]) rfl (by kernel_rfl) (n7_ok nb hn))
  show endD (den17 [some (.lst (EL wd nb p.2)), some wd, some nb, some p.1, none, none] S) = _
  rw [den17_eq, seq_nx e0, seq_nx e1, seq_nx e2, e3]; rfl
end Lw

/-! k00: laps, the law -/
namespace Lw
open L2 PySem PySem.Spec PyProof.Rows Pd
/-- a drawn member of a list that is displayed -/
theorem draw_ok {Γ : Ga} {words : DA} {ws : List D} {S S1 : Sto} {k : Nat} (hl : ws.length = k) (hk : 1 ≤ k) (hk2 : k ≤ 1000) (hΓ : Γ[1]? = some (some (.ref 1))) (hw : words Γ S = .ok ws S1) (s : Sr S1 1 2) :
    ∃ d S', d2 fIx (dLst words) (dCall 2 f13 (aCons (dVar 1) (aCons (dC (.int (k : Nat))) aNil))) Γ S = .ok d S' ∧ d ∈ ws ∧ Sr S' 1 2 := by
  obtain ⟨i, S', e, h0, h1, s'⟩ := pick_sr (k := (k : Nat)) (by omega) (by omega) s
  have hv : dVar 1 Γ S1 = .ok (.ref 1) S1 := by unfold dVar; rw [hΓ]
  have hi : i.toNat < ws.length := by omega
  refine ⟨ws[i.toNat], S', ?_, List.getElem_mem hi, s'⟩
  rw [d2_ok (lst_ok hw (by omega)) ((call_ok (args2 hv rfl) rfl).trans e)]
  show (match itemD ws i with | some d => Res.ok d S' | none => .bad) = _
  rw [itemD_in h0 (by omega), nthD_get, List.getElem?_eq_getElem hi]
abbrev gL (x0 x3 x4 x5 x6 x7 x8 x9 : Option D) : Ga := [x0, some (.ref 1), some great, x3, x4, x5, x6, x7, x8, x9]
def FK (k : Int) : D → D
  | .int j => .bl (eqB j k)
  | _ => .non
section
variable {x0 x3 x9 : Option D} {wd nb sm tp : D} {S : Sto}
theorem cmp_ok {j k : Int} {T : Sto} {a b c d e f g : Option D} : d2 fEqX (dVar 9) (dVar 8) [a, b, c, d, e, f, g, x0, some (.int k), some (.int j)] T = .ok (.bl (eqB j k)) T := by kernel_rfl
theorem row_ok {k : Int} (o : Ok S) : dLc frz (iNo (aBind (aCons (dCB gLen (aCons (dVar 7) aNil)) aNil) rng1)) (gN 9) dYes (d2 fEqX (dVar 9) (dVar 8)) [9] (gL x0 x3 (some wd) (some nb) (some sm) (some (.lst (EL wd nb tp))) (some (.int k)) x9) S = .ok (.lst ((upto 0 15).map (FK k))) (up S) := by
  refine (dLc_ok (S := S) (F := FK k) (G := fun d => gL x0 x3 (some wd) (some nb) (some sm) (some (.lst (EL wd nb tp))) (some (.int k)) (some d)) (ds := upto 0 15) (by kernel_rfl) (by rw [upto_len]; omega) fun d hd acc => ?_).trans (frz_new o)
  obtain ⟨j, rfl, _, _⟩ := upto_mem _ _ _ hd
  exact ⟨rfl, rfl, cmp_ok⟩
theorem li0_ok {k : Int} (h0 : 0 ≤ k) (h1 : k < 15) (o : Ok S) : li0 (gL x0 x3 (some wd) (some nb) (some sm) (some (.lst (EL wd nb tp))) (some (.int k)) x9) S = .nx (gL x0 x3 (some wd) (some nb) (some sm) (some (.lst (EL wd nb tp))) (some (.int k)) x9) (up S) := by
  have hb := row_ok (x0 := x0) (x3 := x3) (x9 := x9) (wd := wd) (nb := nb) (sm := sm) (tp := tp) (k := k) o
  have hk : k = 0 ∨ k = 1 ∨ k = 2 ∨ k = 3 ∨ k = 4 ∨ k = 5 ∨ k = 6 ∨ k = 7 ∨ k = 8 ∨ k = 9 ∨ k = 10 ∨ k = 11 ∨ k = 12 ∨ k = 13 ∨ k = 14 := by omega
  have ha : dCall 1 f14 (aCons (d2 fIx (dVar 7) (dVar 8)) aNil) (gL x0 x3 (some wd) (some nb) (some sm) (some (.lst (EL wd nb tp))) (some (.int k)) x9) S = .ok (.lst ((upto 0 15).map (FK k))) S := by
    clear hb h0 h1
    rcases hk with rfl | rfl | rfl | rfl | rfl | rfl | rfl | rfl | rfl | rfl | rfl | rfl | rfl | rfl | rfl <;> kernel_rfl
  have hc : (fNeX (.lst ((upto 0 15).map (FK k))) (.lst ((upto 0 15).map (FK k))) (up S)).bind blB = .ok false (up S) := by
    clear hb ha h0 h1
    rcases hk with rfl | rfl | rfl | rfl | rfl | rfl | rfl | rfl | rfl | rfl | rfl | rfl | rfl | rfl | rfl <;> kernel_rfl
  exact (if_f ((t2_ok ha hb).trans hc)).trans rfl
theorem li1_ok {k : Int} (h0 : 0 ≤ k) (h1 : k < 15) : li1 (gL x0 x3 (some wd) (some nb) (some sm) (some (.lst (EL wd nb tp))) (some (.int k)) x9) S = .nx (gL x0 x3 (some wd) (some nb) (some sm) (some (.lst (EL wd nb tp))) (some (.int k)) x9) S := by
  have hk : k = 0 ∨ k = 1 ∨ k = 2 ∨ k = 3 ∨ k = 4 ∨ k = 5 ∨ k = 6 ∨ k = 7 ∨ k = 8 ∨ k = 9 ∨ k = 10 ∨ k = 11 ∨ k = 12 ∨ k = 13 ∨ k = 14 := by omega
  clear h0 h1
  rcases hk with rfl | rfl | rfl | rfl | rfl | rfl | rfl | rfl | rfl | rfl | rfl | rfl | rfl | rfl | rfl <;> kernel_rfl
theorem loop_ok : ∀ (ds : List D), (∀ d ∈ ds, ∃ k : Int, d = .int k ∧ 0 ≤ k ∧ k < 15) → ∀ (S : Sto) (x8 : Option D), Sr S 1 2 → ∃ y8 S',
    loopD (gN 8) (sSeq li0 li1) ds (gL x0 x3 (some wd) (some nb) (some sm) (some (.lst (EL wd nb tp))) x8 x9) S = .nx (gL x0 x3 (some wd) (some nb) (some sm) (some (.lst (EL wd nb tp))) y8 x9) S' ∧ Sr S' 1 2
  | [], _, S, x8, s => ⟨x8, S, rfl, s⟩
  | d :: ds, h, S, x8, s => by
    obtain ⟨k, rfl, h0, h1⟩ := h d List.mem_cons_self
    obtain ⟨y8, S', e, s'⟩ := loop_ok ds (fun d hd => h d (List.mem_cons_of_mem _ hd)) (up S) (some (.int k)) s.up
    refine ⟨y8, S', ?_, s'⟩
    have q : sSeq li0 li1 (gL x0 x3 (some wd) (some nb) (some sm) (some (.lst (EL wd nb tp))) (some (.int k)) x9) S = .nx (gL x0 x3 (some wd) (some nb) (some sm) (some (.lst (EL wd nb tp))) (some (.int k)) x9) (up S) := by
      rw [seq_nx (li0_ok h0 h1 s.ok)]; exact li1_ok h0 h1
    show (match sSeq li0 li1 (gL x0 x3 (some wd) (some nb) (some sm) (some (.lst (EL wd nb tp))) (some (.int k)) x9) S with
      | .nx Γ2 S2 => loopD (gN 8) (sSeq li0 li1) ds Γ2 S2
      | .ct Γ2 S2 => loopD (gN 8) (sSeq li0 li1) ds Γ2 S2
      | .bk Γ2 S2 => .nx Γ2 S2
      | o => o) = _
    rw [q]
    exact e
end
theorem lap_ok {x0 x3 x4 x5 x6 x7 x8 x9 : Option D} {S : Sto} (s : Sr S 1 2) : ∃ y4 y5 y6 y7 y8 S', lap (gL x0 x3 x4 x5 x6 x7 x8 x9) S = .nx (gL x0 x3 y4 y5 y6 y7 y8 x9) S' ∧ Sr S' 1 2 := by
  obtain ⟨wd, S1, e0, hw, s1⟩ := draw_ok (Γ := gL x0 x3 x4 x5 x6 x7 x8 x9) (ws := W8) (k := 8) rfl (by decide) (by decide) rfl
    (words := (aCons (dC (.str (⟨#[]⟩ : Str))) (aCons (dC (.str (⟨#[120]⟩ : Str))) (aCons (dC (.str (⟨#[110, 111, 32, 115, 117, 99, 104, 32, 110, 97, 109, 101]⟩ : Str))) (aCons (dC .non) (aCons (d2 fMulS (dC (.str (⟨#[120]⟩ : Str))) (dC (.int 100))) (aCons (dTup (aCons (dC (.str (⟨#[97]⟩ : Str))) aNil)) (aCons (dC (.int 0)) (aCons (dLst (aCons (dC (.str (⟨#[97]⟩ : Str))) (aCons (dFrz (dNewD false)) aNil))) aNil)))))))))
    (acons rfl (acons rfl (acons rfl (acons rfl (acons (S1 := S) (by kernel_rfl) (acons (S1 := S) (by kernel_rfl) (acons rfl (args1 (lst_ok (acons rfl (args1 (frzE (a := .ref S.nx) (S1 := S.new (.dct [])) rfl (frz_newD s.ok)))) (by show 2 ≤ 1000; decide))))))))) ) s.up
  have q0 : lb0 (gL x0 x3 x4 x5 x6 x7 x8 x9) S = .nx (gL x0 x3 (some wd) x5 x6 x7 x8 x9) S1 := set_nx e0
  obtain ⟨nb, S2, e1, hn, s2⟩ := draw_ok (Γ := gL x0 x3 (some wd) x5 x6 x7 x8 x9) (S := S1) (S1 := S1) (ws := N7) (k := 7) rfl (by decide) (by decide) rfl
    (words := (aCons (dC (.int 0)) (aCons (dC (.int 1)) (aCons (dC (.int 7)) (aCons (dC (.int 200)) (aCons (dVar 2) (aCons (dC (.int (-1))) (aCons (dC .non) aNil)))))))) (by kernel_rfl) s1
  have q1 : lb1 (gL x0 x3 (some wd) x5 x6 x7 x8 x9) S1 = .nx (gL x0 x3 (some wd) (some nb) x6 x7 x8 x9) S2 := set_nx e1
  obtain ⟨sm, S3, e2, hs, s3⟩ := draw_ok (Γ := gL x0 x3 (some wd) (some nb) x6 x7 x8 x9) (S := S2) (S1 := S2) (ws := P5.map (·.1)) (k := 5) rfl (by decide) (by decide) rfl
    (words := (aCons (dLst (aCons (dC (.str (⟨#[97]⟩ : Str))) (aCons (dC (.str (⟨#[98]⟩ : Str))) aNil))) (aCons (dLst aNil) (aCons (dTup (aCons (dC (.str (⟨#[97]⟩ : Str))) aNil)) (aCons (dLst (aCons (dC (.int 0)) (aCons (dC (.int 1)) (aCons (dC (.int 0)) aNil)))) (aCons (dTup (aCons (dTup (aCons (dC (.str (⟨#[120]⟩ : Str))) (aCons (dC (.str (⟨#[121]⟩ : Str))) aNil))) aNil)) aNil)))))) (by kernel_rfl) s2
  have q2 : lb2 (gL x0 x3 (some wd) (some nb) x6 x7 x8 x9) S2 = .nx (gL x0 x3 (some wd) (some nb) (some sm) x7 x8 x9) S3 := set_nx e2
  obtain ⟨p, hp, rfl⟩ := List.mem_map.mp hs
  have q3 : lb3 (gL x0 x3 (some wd) (some nb) (some p.1) x7 x8 x9) S3 = .nx (gL x0 x3 (some wd) (some nb) (some p.1) (some (.lst (EL wd nb p.2))) x8 x9) S3 :=
    set_nx ((call_ok (acons rfl (args2 rfl rfl)) rfl).trans (every_ok p hp))
  obtain ⟨y8, S4, e4, s4⟩ := loop_ok (x0 := x0) (x3 := x3) (x9 := x9) (wd := wd) (nb := nb) (sm := p.1) (tp := p.2) (upto 0 15) (fun d hd => by
    obtain ⟨k, e, h0, h1⟩ := upto_mem _ _ _ hd
    exact ⟨k, e, h0, by omega⟩) S3 x8 s3
  have q4 : lb4 (gL x0 x3 (some wd) (some nb) (some p.1) (some (.lst (EL wd nb p.2))) x8 x9) S3 = .nx (gL x0 x3 (some wd) (some nb) (some p.1) (some (.lst (EL wd nb p.2))) y8 x9) S4 := by
    rw [show lb4 = sFor (iNo (aBind (aCons (dCB gLen (aCons (dVar 7) aNil)) aNil) rng1)) (gN 8) (sSeq li0 li1) from rfl, for_no (ds := upto 0 15) (S1 := S3) (by kernel_rfl), e4]; rfl
  have q5 : lb5 (gL x0 x3 (some wd) (some nb) (some p.1) (some (.lst (EL wd nb p.2))) y8 x9) S4 = .nx (gL x0 x3 (some wd) (some nb) (some p.1) (some (.lst (EL wd nb p.2))) y8 x9) S4 := by
    refine (if_f ?_).trans rfl
    have a1 : t2 fNeX (dCB gLen (aCons (dVar 7) aNil)) (dC (.int 15)) (gL x0 x3 (some wd) (some nb) (some p.1) (some (.lst (EL wd nb p.2))) y8 x9) S4 = .ok false S4 := by kernel_rfl
    have a2 : dCall 4 f17 (aCons (dVar 7) (aCons (dVar 4) (aCons (dVar 5) (aCons (dVar 6) aNil)))) (gL x0 x3 (some wd) (some nb) (some p.1) (some (.lst (EL wd nb p.2))) y8 x9) S4 = .ok (.bl true) S4 :=
      (call_ok (acons rfl (acons rfl (args2 rfl rfl))) rfl).trans (kept_ok hw hn p hp)
    unfold dOr
    rw [a1]
    show dNot (dTr _) _ _ = _
    unfold dNot dTr
    rw [a2]; rfl
  refine ⟨some wd, some nb, some p.1, some (.lst (EL wd nb p.2)), y8, S4, ?_, s4⟩
  rw [show lap = sSeq lb0 (sSeq lb1 (sSeq lb2 (sSeq lb3 (sSeq lb4 lb5)))) from rfl, seq_nx q0, seq_nx q1, seq_nx q2, seq_nx q3, seq_nx q4, q5]
theorem law_ok (ns : List Int) (hl : ns.length ≤ 63) : ∃ S, f18 [.frl (ns.map D.int)] S0 = .ok (.bl true) S := by
  obtain ⟨S, cs, x, e, s, hc, _⟩ := src_ok ns hl
  have s0 : Sr S 1 2 := ⟨cs, 1, x, 0, s, hc⟩
  have q0 : l0 [some (.frl (ns.map D.int)), none, none, none, none, none, none, none, none, none] S0 = .nx [some (.frl (ns.map D.int)), some (.ref 1), none, none, none, none, none, none, none, none] S := set_nx ((call_ok (args1 rfl) rfl).trans e)
  have q1 : l1 [some (.frl (ns.map D.int)), some (.ref 1), none, none, none, none, none, none, none, none] S = .nx (gL (some (.frl (ns.map D.int))) none none none none none none none) S := by kernel_rfl
  obtain ⟨a4, a5, a6, a7, a8, S1, e1, s1⟩ := lap_ok (x0 := some (.frl (ns.map D.int))) (x3 := some (.int 0)) (x4 := none) (x5 := none) (x6 := none) (x7 := none) (x8 := none) (x9 := none) s0
  obtain ⟨b4, b5, b6, b7, b8, S2, e2, s2⟩ := lap_ok (x0 := some (.frl (ns.map D.int))) (x3 := some (.int 1)) (x4 := a4) (x5 := a5) (x6 := a6) (x7 := a7) (x8 := a8) (x9 := none) s1
  refine ⟨S2, ?_⟩
  show endD (den18 [some (.frl (ns.map D.int)), none, none, none, none, none, none, none, none, none] S0) = _
  have q2 : sFor (iNo (aBind (aCons (dC (.int 2)) aNil) rng1)) (gN 3) lap (gL (some (.frl (ns.map D.int))) none none none none none none none) S = .nx (gL (some (.frl (ns.map D.int))) (some (.int 1)) b4 b5 b6 b7 b8 none) S2 := by
    rw [for_no (ds := [.int 0, .int 1]) (S1 := S) (by kernel_rfl)]
    have z : loopD (gN 3) lap [.int 0, .int 1] (gL (some (.frl (ns.map D.int))) none none none none none none none) S = .nx (gL (some (.frl (ns.map D.int))) (some (.int 1)) b4 b5 b6 b7 b8 none) S2 := by
      show (match lap (gL (some (.frl (ns.map D.int))) (some (.int 0)) none none none none none none) S with
        | .nx Γ2 S2 => loopD (gN 3) lap [.int 1] Γ2 S2
        | .ct Γ2 S2 => loopD (gN 3) lap [.int 1] Γ2 S2
        | .bk Γ2 S2 => .nx Γ2 S2
        | o => o) = _
      rw [e1]
      show (match lap (gL (some (.frl (ns.map D.int))) (some (.int 1)) a4 a5 a6 a7 a8 none) S1 with
        | .nx Γ2 S2 => loopD (gN 3) lap [] Γ2 S2
        | .ct Γ2 S2 => loopD (gN 3) lap [] Γ2 S2
        | .bk Γ2 S2 => .nx Γ2 S2
        | o => o) = _
      rw [e2]; rfl
    rw [z]; rfl
  rw [den18_eq, seq_nx q0, seq_nx q1, seq_nx q2]; rfl
end Lw

namespace Lw
open PySem.W PySem PySem.Calls PyProof.Rows Pd
abbrev R : OpenRow := PySem.W.OpenLaw.row PySem.Challenge.rw_worldsalone_k00_errors
abbrev qv : Program := view R.prog [25]
def loose : List PySem.Str := (["HostError", "BadChoice", "BadPaper", "NoRoom", "BadName", "TwiceTold", "BadMeaning", "BadMachine", "BadStart", "BadBook", "BadData", "BadText", "TooLong", "NameMissing", "UnknownName", "UnknownWorld", "NotThere", "_law_source", "_law_pick", "_law_kinds", "_law_bases", "_law_every", "_law_kept"] : List PySem.Str)
def as : List Addr := ([3, 1, 22, 23, 24, 25, 35, 36, 37, 47, 48, 49, 59, 60, 61, 76, 77, 78, 79, 80, 95, 96, 97, 98, 99, 114, 115, 116, 117, 118, 133, 134, 135, 136, 137, 152, 153, 154, 155, 156, 171, 172, 173, 174, 175, 190, 191, 192, 193, 194, 209, 210, 211, 212, 213, 228, 229, 230, 231, 232] : List Addr) ++ ([242, 243, 244, 245, 260, 261, 262, 263, 264, 279, 280, 281, 282, 283, 298, 299, 300, 301, 302, 308, 309, 315, 316, 322, 323, 329, 330, 336, 337, 343, 344, 348, 349] : List Addr)
def kK : D → List (PySem.Str × D)
  | .kdc l => l
  | _ => []
def ts : List He.Tab := []
def gaN (K : PySem.W.Frag) (i : Nat) : Addr := He.ga K (GN.getD i "")
def sysB (K : PySem.W.Frag) : Bool := match K.lookup sysModules with
  | some o => (match o.cls with
    | .type t => eqS t "dict"
    | _ => false)
  | none => false
theorem sys_ok {K : PySem.W.Frag} (h : sysB K = true) : SysD K := by
  unfold sysB at h
  split at h
  · rename_i o e
    refine ⟨o, e, fun z => ?_⟩
    rw [z] at h
    exact absurd ((eqS_iff _ _).mp h) (by decide +kernel)
  · cases h
def bs (K : PySem.W.Frag) : Bool := sysB K && (xsB K (gaN K) [(12, true), (11, true), (10, true), (9, true), (8, true), (17, true), (16, true), (15, true), (14, true), (13, true), (19, true), (18, true), (23, false), (22, false), (21, false)] && (PySem.W.excIn K (He.ga K "NoRoom") (xTail true) (xNew true) && (PySem.W.excIn K (He.ga K "BadPaper") (xTail true) (xNew true) && (PySem.W.excIn K (He.ga K "BadChoice") (xTail true) (xNew true) && (xiB K (He.ga K "TwiceTold") (He.ma K (He.ga K "TwiceTold") "__init__") true && (xiB K (He.ga K "BadName") (He.ma K (He.ga K "BadName") "__init__") true && (xiB K (He.ga K "BadData") (He.ma K (He.ga K "BadData") "__init__") true && (xiB K (He.ga K "BadBook") (He.ma K (He.ga K "BadBook") "__init__") true && (xiB K (He.ga K "BadStart") (He.ma K (He.ga K "BadStart") "__init__") true && (xiB K (He.ga K "BadMachine") (He.ma K (He.ga K "BadMachine") "__init__") true && (xiB K (He.ga K "BadMeaning") (He.ma K (He.ga K "BadMeaning") "__init__") true && (xiB K (He.ga K "TooLong") (He.ma K (He.ga K "TooLong") "__init__") true && (xiB K (He.ga K "BadText") (He.ma K (He.ga K "BadText") "__init__") true && (xiB K (He.ga K "NotThere") (He.ma K (He.ga K "NotThere") "__init__") false && (xiB K (He.ga K "UnknownWorld") (He.ma K (He.ga K "UnknownWorld") "__init__") false && (xiB K (He.ga K "UnknownName") (He.ma K (He.ga K "UnknownName") "__init__") false && (kitB K (gaN K) (.ref (He.ga K "BadName")) xt_BadName && (kitB K (gaN K) (.ref (He.ga K "NoRoom")) xt_NoRoom && (kitB K (gaN K) (.ref (He.ga K "BadPaper")) xt_BadPaper && (kitB K (gaN K) (.ref (He.ga K "BadChoice")) xt_BadChoice && (kitB K (gaN K) (.ref (He.ga K "BadMachine")) xt_BadMachine && (kitB K (gaN K) (.ref (He.ga K "BadMeaning")) xt_BadMeaning && (kitB K (gaN K) (.ref (He.ga K "TwiceTold")) xt_TwiceTold && (kitB K (gaN K) (.ref (He.ga K "BadData")) xt_BadData && (kitB K (gaN K) (.ref (He.ga K "BadBook")) xt_BadBook && (kitB K (gaN K) (.ref (He.ga K "BadStart")) xt_BadStart && (kitB K (gaN K) (.ref (He.ga K "TooLong")) xt_TooLong && (kitB K (gaN K) (.ref (He.ga K "BadText")) xt_BadText && (kitB K (gaN K) (.ref (He.ga K "NotThere")) xt_NotThere && (kitB K (gaN K) (.ref (He.ga K "UnknownWorld")) xt_UnknownWorld && (kitB K (gaN K) (.ref (He.ga K "UnknownName")) xt_UnknownName && (kitB K (gaN K) (.type "ValueError") xt_ValueError && (kitB K (gaN K) (.ref (He.ga K "HostError")) xt_HostError && (kitB K (gaN K) (.type "LookupError") xt_LookupError && (kitB K (gaN K) (.ref (He.ga K "NameMissing")) xt_NameMissing && (xaB K (gaN K) "name" [11, 12, 21] && (xaB K (gaN K) "word" [13, 14, 15] && (xaB K (gaN K) "path" [16, 17] && (xaB K (gaN K) "number" [22, 23] && (xaB K (gaN K) "limit" [19] && (xaB K (gaN K) "place" [18])))))))))))))))))))))))))))))))))))))))))
noncomputable abbrev ends (w : World) (os : OsState) : Option SharedT := HandSHeadRun.endF (HandSHeadRun.stepQ (HandSHeadRun.denQ HandSHeadRun.tabQ) R.prog w) 20000 R.prog w os
def o1 (s : SharedT) : AlA := obsAG as fa [] ts bs (HandSHeadRun.getT s)
def o2 (s : SharedT) : He.AlD := He.obsD [] (fn.take 9) (He.frG (HandSHeadRun.getT s) as)
def o3 (s : SharedT) : He.AlD := He.obsD [] (fn.drop 9) (He.frG (HandSHeadRun.getT s) as)
theorem run1_false (w : World) : HandSHeadRun.RunEq R qv (hookA as fa [] ts bs) o1 20000 loose (w.withFollow "special-get-raises" false) := by
  intro os
  kernel_rfl
theorem run2_false (w : World) (os : OsState) : (ends (w.withFollow "special-get-raises" false) os).map o2 = some (He.valD (fn.take 9)) := by kernel_rfl
theorem run3_false (w : World) (os : OsState) : (ends (w.withFollow "special-get-raises" false) os).map o3 = some (He.valD (fn.drop 9)) := by kernel_rfl
theorem run1_true (w : World) : HandSHeadRun.RunEq R qv (hookA as fa [] ts bs) o1 20000 loose (w.withFollow "special-get-raises" true) := by
  intro os
  kernel_rfl
theorem run2_true (w : World) (os : OsState) : (ends (w.withFollow "special-get-raises" true) os).map o2 = some (He.valD (fn.take 9)) := by kernel_rfl
theorem run3_true (w : World) (os : OsState) : (ends (w.withFollow "special-get-raises" true) os).map o3 = some (He.valD (fn.drop 9)) := by kernel_rfl
abbrev hk : Hook := hookS as fa fn 9 ts bs
def ob (s : SharedT) : AlS := obsSG as fa fn 9 ts bs (HandSHeadRun.getT s)
theorem ob_eq (s : SharedT) : ob s = hk.obs s.abs := obsSG_eq (HandSHeadRun.getT_eq s)
theorem run_false (w : World) : HandSHeadRun.RunEq R qv hk ob 20000 loose (w.withFollow "special-get-raises" false) := fun os => map_parts (run1_false w os) (run2_false w os) (run3_false w os)
theorem run_true (w : World) : HandSHeadRun.RunEq R qv hk ob 20000 loose (w.withFollow "special-get-raises" true) := fun os => map_parts (run1_true w os) (run2_true w os) (run3_true w os)
theorem run (w : World) : HandSHeadRun.RunEq R qv hk ob 20000 loose w := PySem.W.byRow2 "special-get-raises" (P := fun w => HandSHeadRun.RunEq R qv hk ob 20000 loose w) run_false run_true w
end Lw

namespace Lw
section
open PySem.W PySem PySem.Calls PyProof.Rows Pd
theorem ck_ok {K : PySem.W.Frag} {w : World} (c : SaysA fa fn ts bs w K) : Ck K w := by
  have b := c.b

  obtain ⟨b0, b⟩ := Bool.and_eq_true_iff.mp b
  obtain ⟨b1, b⟩ := Bool.and_eq_true_iff.mp b
  obtain ⟨b2, b⟩ := Bool.and_eq_true_iff.mp b
  obtain ⟨b3, b⟩ := Bool.and_eq_true_iff.mp b
  obtain ⟨b4, b⟩ := Bool.and_eq_true_iff.mp b
  obtain ⟨b5, b⟩ := Bool.and_eq_true_iff.mp b
  obtain ⟨b6, b⟩ := Bool.and_eq_true_iff.mp b
  obtain ⟨b7, b⟩ := Bool.and_eq_true_iff.mp b
  obtain ⟨b8, b⟩ := Bool.and_eq_true_iff.mp b
  obtain ⟨b9, b⟩ := Bool.and_eq_true_iff.mp b
  obtain ⟨b10, b⟩ := Bool.and_eq_true_iff.mp b
  obtain ⟨b11, b⟩ := Bool.and_eq_true_iff.mp b
  obtain ⟨b12, b⟩ := Bool.and_eq_true_iff.mp b
  obtain ⟨b13, b⟩ := Bool.and_eq_true_iff.mp b
  obtain ⟨b14, b⟩ := Bool.and_eq_true_iff.mp b
  obtain ⟨b15, b⟩ := Bool.and_eq_true_iff.mp b
  obtain ⟨b16, b⟩ := Bool.and_eq_true_iff.mp b
  obtain ⟨b17, b⟩ := Bool.and_eq_true_iff.mp b
  obtain ⟨b18, b⟩ := Bool.and_eq_true_iff.mp b
  obtain ⟨b19, b⟩ := Bool.and_eq_true_iff.mp b
  obtain ⟨b20, b⟩ := Bool.and_eq_true_iff.mp b
  obtain ⟨b21, b⟩ := Bool.and_eq_true_iff.mp b
  obtain ⟨b22, b⟩ := Bool.and_eq_true_iff.mp b
  obtain ⟨b23, b⟩ := Bool.and_eq_true_iff.mp b
  obtain ⟨b24, b⟩ := Bool.and_eq_true_iff.mp b
  obtain ⟨b25, b⟩ := Bool.and_eq_true_iff.mp b
  obtain ⟨b26, b⟩ := Bool.and_eq_true_iff.mp b
  obtain ⟨b27, b⟩ := Bool.and_eq_true_iff.mp b
  obtain ⟨b28, b⟩ := Bool.and_eq_true_iff.mp b
  obtain ⟨b29, b⟩ := Bool.and_eq_true_iff.mp b
  obtain ⟨b30, b⟩ := Bool.and_eq_true_iff.mp b
  obtain ⟨b31, b⟩ := Bool.and_eq_true_iff.mp b
  obtain ⟨b32, b⟩ := Bool.and_eq_true_iff.mp b
  obtain ⟨b33, b⟩ := Bool.and_eq_true_iff.mp b
  obtain ⟨b34, b⟩ := Bool.and_eq_true_iff.mp b
  obtain ⟨b35, b⟩ := Bool.and_eq_true_iff.mp b
  obtain ⟨b36, b⟩ := Bool.and_eq_true_iff.mp b
  obtain ⟨b37, b⟩ := Bool.and_eq_true_iff.mp b
  obtain ⟨b38, b⟩ := Bool.and_eq_true_iff.mp b
  obtain ⟨b39, b⟩ := Bool.and_eq_true_iff.mp b
  obtain ⟨b40, b⟩ := Bool.and_eq_true_iff.mp b
  have b41 := b
  exact ⟨trivial, sys_ok b0, xsB_ok (C := CC K w) b1, b2, b3, b4, xiB_ok b5, xiB_ok b6, xiB_ok b7, xiB_ok b8, xiB_ok b9, xiB_ok b10, xiB_ok b11, xiB_ok b12, xiB_ok b13, xiB_ok b14, xiB_ok b15, xiB_ok b16, kitT_ok (C := CC K w) (xsB_ok (C := CC K w) b1) rfl b17, kitT_ok (C := CC K w) (xsB_ok (C := CC K w) b1) rfl b18, kitT_ok (C := CC K w) (xsB_ok (C := CC K w) b1) rfl b19, kitT_ok (C := CC K w) (xsB_ok (C := CC K w) b1) rfl b20, kitT_ok (C := CC K w) (xsB_ok (C := CC K w) b1) rfl b21, kitT_ok (C := CC K w) (xsB_ok (C := CC K w) b1) rfl b22, kitT_ok (C := CC K w) (xsB_ok (C := CC K w) b1) rfl b23, kitT_ok (C := CC K w) (xsB_ok (C := CC K w) b1) rfl b24, kitT_ok (C := CC K w) (xsB_ok (C := CC K w) b1) rfl b25, kitT_ok (C := CC K w) (xsB_ok (C := CC K w) b1) rfl b26, kitT_ok (C := CC K w) (xsB_ok (C := CC K w) b1) rfl b27, kitT_ok (C := CC K w) (xsB_ok (C := CC K w) b1) rfl b28, kitT_ok (C := CC K w) (xsB_ok (C := CC K w) b1) rfl b29, kitT_ok (C := CC K w) (xsB_ok (C := CC K w) b1) rfl b30, kitT_ok (C := CC K w) (xsB_ok (C := CC K w) b1) rfl b31, kitT_ok (C := CC K w) (xsB_ok (C := CC K w) b1) rfl b32, kitT_ok (C := CC K w) (xsB_ok (C := CC K w) b1) rfl b33, kitT_ok (C := CC K w) (xsB_ok (C := CC K w) b1) rfl b34, kitT_ok (C := CC K w) (xsB_ok (C := CC K w) b1) rfl b35, xaP_ok (C := CC K w) (xsB_ok (C := CC K w) b1) rfl b36, xaP_ok (C := CC K w) (xsB_ok (C := CC K w) b1) rfl b37, xaP_ok (C := CC K w) (xsB_ok (C := CC K w) b1) rfl b38, xaP_ok (C := CC K w) (xsB_ok (C := CC K w) b1) rfl b39, xaP_ok (C := CC K w) (xsB_ok (C := CC K w) b1) rfl b40, xaP_ok (C := CC K w) (xsB_ok (C := CC K w) b1) rfl b41⟩
end
section
open L2 PySem PySem.Spec PyProof.Rows Pd
variable {P : Program} {w : World} {K : PySem.W.Frag} {mg : PySem.Str → Option Value} {base h0 : Heap}
theorem ts_of {C : Cfg} {E : XK} {Q : VK} {N : List PySem.Str} {n : Nat} {fb : DS} {vs : List V} {H : Hp} (hle : Nat.ble n N.length = true) (h : spD C n (dFun N.length fb) vs H Q E) : tS C E fb { nx := fun _ H' => Q .non H', rt := Q } (start N vs) H := by
  obtain ⟨M, T0, ds, hl, sm, r, g⟩ := h
  refine ⟨M, startG N.length ds, T0, startG_rep (by rw [hl]; exact len_ok hle) r, sm, ?_⟩
  have g : GoodE C M (endD (fb (startG N.length ds) T0)) Q E := g
  cases e : fb (startG N.length ds) T0 with
  | nx Γ S' => rw [e] at g; exact fun M' σ' H' l _ s => g M' .non H' l s .non
  | rt d S' => rw [e] at g; exact g
  | bk Γ S' => rw [e] at g; exact g.elim
  | ct Γ S' => rw [e] at g; exact g.elim
  | exc c fs S' => rw [e] at g; exact fun M' σ' c' d H' l s r => g M' c' d H' l s r
  | bad => rw [e] at g; exact g.elim
theorem reps : ∀ (M : Wd) (C : Cfg) (ns : List Int), RepL C M (ns.map D.int) (ns.map V.int)
  | _, _, [] => .nil
  | M, C, i :: r => .cons (.int i) (reps M C r)
theorem sp_at {C : Cfg} {f : List D → Sto → Res D} {H : Hp} {a : Addr} {ns : List Int} (hs : SqL C.K H a (ns.map V.int)) (h : ∃ S, f [.frl (ns.map D.int)] S0 = .ok (.bl true) S) : spD C 1 f [.ref a] H (fun v _ => v = .bl true) fun _ _ _ => False := by
  have rl := reps ⟨H, fun _ => none, fun _ => none, fun _ => none⟩ C ns
  obtain ⟨S', e⟩ := h
  refine ⟨⟨H, fun _ => none, fun _ => none, fun _ => none⟩, S0, [.frl (ns.map D.int)], rfl, ⟨fun b o e => .inl e, fun n m e => (nomatch e), fun n n' b e => (nomatch e), fun n b e => (nomatch e), fun b od u e => (nomatch e), fun b u e => (nomatch e)⟩, .cons (.frl hs rl.1 rl.2) .nil, ?_⟩
  rw [e]
  intro M' v H' _ _ r
  cases r
  rfl
theorem runl {fd : FuncData} (KX : K.In h0) (G : h0.Ns mainGlobals mg) (c : He.SaysD fa fn K) (ck : Ck K w) (F : L2.FunD K "law" "law" (defArgs s18) (defBody s18) (defScope s18) [] [] (He.ga K "law") fd)
    {s : Shared} {H : Hp} {a : Addr} {ns : List Int} (hl : ns.length ≤ 63) (hs : SqL K H a (ns.map V.int)) (e0 : Env0 P w K mg base callerA [] s H) :
    codeAny (model P w) callerA (.call (.ref (He.ga K "law")) ⟨[.ref a], []⟩) (CR CX0 [] P w H s (fun v _ => v = .bl true) fun _ _ _ => False) s := by
  have sc := sc18
  have b := L2.FunD.bindsA (ps := ["_law_script"]) F fun _ _ _ _ _ _ us hl => match us, hl with | [_], _ => rfl
  refine call_at (k := 3) (N := ["_law_script", "_law_source_here", "_law_great", "_law_lap", "_law_word", "_law_number", "_law_some", "_law_every_here", "_law_k", "_law_j"]) (ps := ["_law_script"]) (us := [.ref a]) (vs := [.ref a]) F sc rfl ⟨rfl, by decide, by decide⟩ e0 (b s [.ref a] rfl) (.cons rfl .nil) fun cdv hr => ⟨tS (CC K w) (fun _ _ _ => False) den18, ?_, ts_of (n := 1) (N := ["_law_script", "_law_source_here", "_law_great", "_law_lap", "_law_word", "_law_number", "_law_some", "_law_every_here", "_law_k", "_law_j"]) (fb := den18) rfl (sp_at (f := f18) (C := CC K w) hs (law_ok ns hl))⟩
  exact PSs.nox (ycons (yset sc.nd (i := 1) rfl (.inl rfl) (zcall (ok12 KX G c ck) (hr.mono (by decide)) rfl (He.glo_ok KX G (c.fact 4 rfl)) (xacons (xv 0) xanil))) (ycons (yset sc.nd (i := 2) rfl (.inl rfl) (xct cIntS rfl (He.free_ok KX G (c.fact 0 rfl)) rfl (xacons (xbin (oAdd rfl) (xstr rfl) (xbin oMulS (xstr rfl) xint)) xanil))) (ycons (yfor PassesOwn.never rfl (ItD.u (wrng1 rfl (He.free_ok KX G (c.fact 3 rfl)) (xacons xint xanil))) (vs := [3]) (zname (i := 3) sc.nd rfl (.inl rfl) (by decide)) (ycons (yset sc.nd (i := 4) rfl (.inl rfl) (xix rfl rfl hr.units1 (xlst (xacons (xstr rfl) (xacons (xstr rfl) (xacons (xstr rfl) (xacons xnon (xacons (xbin oMulS (xstr rfl) xint) (xacons (xtup (xacons (xstr rfl) xanil)) (xacons xint (xacons (xlst (xacons (xstr rfl) (xacons (xfrz (xnewd false)) xanil))) xanil))))))))) (zcall (ok13 KX G c ck) (hr.mono (by decide)) rfl (He.glo_ok KX G (c.fact 5 rfl)) (xacons (xv 1) (xacons xint xanil))) (by intro _ _; rfl))) (ycons (yset sc.nd (i := 5) rfl (.inl rfl) (xix rfl rfl hr.units1 (xlst (xacons xint (xacons xint (xacons xint (xacons xint (xacons (xv 2) (xacons xneg (xacons xnon xanil)))))))) (zcall (ok13 KX G c ck) (hr.mono (by decide)) rfl (He.glo_ok KX G (c.fact 5 rfl)) (xacons (xv 1) (xacons xint xanil))) (by intro _ _; rfl))) (ycons (yset sc.nd (i := 6) rfl (.inl rfl) (xix rfl rfl hr.units1 (xlst (xacons (xlst (xacons (xstr rfl) (xacons (xstr rfl) xanil))) (xacons (xlst xanil) (xacons (xtup (xacons (xstr rfl) xanil)) (xacons (xlst (xacons xint (xacons xint (xacons xint xanil)))) (xacons (xtup (xacons (xtup (xacons (xstr rfl) (xacons (xstr rfl) xanil))) xanil)) xanil)))))) (zcall (ok13 KX G c ck) (hr.mono (by decide)) rfl (He.glo_ok KX G (c.fact 5 rfl)) (xacons (xv 1) (xacons xint xanil))) (by intro _ _; rfl))) (ycons (yset sc.nd (i := 7) rfl (.inl rfl) (zcall (ok16 KX G c ck) (hr.mono (by decide)) rfl (He.glo_ok KX G (c.fact 22 rfl)) (xacons (xv 4) (xacons (xv 5) (xacons (xv 6) xanil))))) (ycons (yfor PassesOwn.never rfl (ItD.u (wrng1 rfl (He.free_ok KX G (c.fact 3 rfl)) (xacons (xcb (cLen rfl) rfl (He.free_ok KX G (c.fact 2 rfl)) rfl (xacons (xv 7) xanil)) xanil))) (vs := [8]) (zname (i := 8) sc.nd rfl (.inr rfl) (by decide)) (ycons (yif (xtcmp (oNeX rfl hr.units65) (zcall (ok14 KX G c ck) (hr.mono (by decide)) rfl (He.glo_ok KX G (c.fact 24 rfl)) (xacons (xix rfl rfl hr.units1 (xv 7) (xv 8) (by intro _ _; rfl)) xanil)) (xlc fin_frz rfl sc.nd (ItD.u (wrng1 rfl (He.free_ok KX G (c.fact 3 rfl)) (xacons (xcb (cLen rfl) rfl (He.free_ok KX G (c.fact 2 rfl)) rfl (xacons (xv 7) xanil)) xanil))) (own := [("_law_j", 9)]) (blk_of (by kernel_rfl)) (uname (i := 9) (fun _ _ _ _ _ => pg_name sc.nd rfl (.inl rfl)) (by decide)) (fun _ _ _ _ _ => xtnil) (fun _ _ _ _ _ => (xcmp (oEqX rfl hr.units65) (xv 9) (xv 8) (by rfl)))) (by rfl)) (yone (yret xbl)) ynil) (yone (yif (xtcmp (oNeX rfl hr.units65) (zcall (ok15 KX G c ck) (hr.mono (by decide)) rfl (He.glo_ok KX G (c.fact 29 rfl)) (xacons (xix rfl rfl hr.units1 (xv 7) (xv 8) (by intro _ _; rfl)) xanil)) (xlst (xacons (xcmp oLt (xv 8) xint (by rfl)) (xacons (xcmp oLt (xv 8) xint (by rfl)) (xacons (xcmp oGe (xv 8) xint (by rfl)) (xacons (xcmp oGe (xv 8) xint (by rfl)) xanil))))) (by rfl)) (yone (yret xbl)) ynil)))) (yone (yif (PW.pt (xor (xtcmp (oNeX rfl hr.units65) (xcb (cLen rfl) rfl (He.free_ok KX G (c.fact 2 rfl)) rfl (xacons (xv 7) xanil)) xint (by rfl)) (pw_or1 (xnot (xtr rfl (zcallG (ok17 KX G c ck) rfl (hr.mono (by decide)) rfl (He.glo_ok KX G (c.fact 31 rfl)) (xacons (xv 7) (xacons (xv 4) (xacons (xv 5) (xacons (xv 6) xanil)))))))))) (yone (yret xbl)) ynil)))))))) (yone (yret xbl)))))
end
end Lw
section
open PySem.W PySem PySem.Calls PyProof.Rows
theorem PySem.Challenge.cw_worldsalone_k00_errors_holds : PySem.Challenge.rw_worldsalone_k00_errors.Holds := by
  w_on; o_law
  refine HandSHeadRun.head_any (r := PySem.W.OpenLaw.row PySem.Challenge.rw_worldsalone_k00_errors) (q := Lw.qv) (H := Lw.hk) (ob := Lw.ob) (M := 20000) (loose := Lw.loose) (d := HandSHeadRun.topDef (PySem.W.OpenLaw.row PySem.Challenge.rw_worldsalone_k00_errors).prog 25) (kwd := []) Lw.ob_eq (by kernel_rfl) (fun s => by kernel_rfl) Lw.run (by kernel_rfl) (by kernel_rfl) (by kernel_rfl) (by rfl) (by first | assumption | decide +kernel) (by decide +kernel) ⟨rfl, rfl, rfl, rfl, rfl, by decide +kernel⟩ ?hw ?hc
  case hw => w_witness2
  case hc =>
    refine Pd.walk_G (l := PySem.Challenge.rw_worldsalone_k00_errors) (n := 63) rfl (by decide) (by kernel_rfl) ?F
    intro w mg fa h Y G hmg0
    obtain ⟨K, KX, ⟨ca, cb⟩, cc⟩ := Y
    have c := Pd.says_all ca cb cc
    have hmg : mg ("law" : PySem.Str) = some (.ref fa) := by
      have e : (HandSHeadRun.topDef (PySem.W.OpenLaw.row PySem.Challenge.rw_worldsalone_k00_errors).prog 25).name = ("law" : PySem.Str) := by kernel_rfl
      rw [← e]
      exact hmg0
    have e := hmg.symm.trans (He.glo_ok KX G (c.d.fact 32 (f := .glo "law") rfl))
    cases e
    obtain ⟨fd, F⟩ := c.d.def_ 18 (d := Lw.dd18) rfl
    exact ⟨K, KX, fun s H a ns hl hs base KB GB e0 => Lw.runl KB GB c.d (Lw.ck_ok c) F hl hs e0⟩
end

