import PyProof.Rows.All
import Wide.All
import OpenK.AllK
import Wide.FinOn
import HandS.ForMost
import HandS.Exc
import HandS.ExcOwn
import HandS.Wide
import HandS.WideMore
import HandS.Gcd
import HandS.IsInst
import HandS.Conv
import HandS.Zip
import HandS.Walk
import HandS.Defaults
import HandS.TupAny
import HandS.Style
import HandS.Flow
import HandS.CallSlots
import HandS.ExcInit
import HandS.ExcField
import HandS.ExcIs
import HandS.FStr
import HandS.TryOnly
import HandS.WordsExc
import HandS.StrMore
import HandS.Text
import HandS.RaiseMore
import HandS.WideBits
import HandS.Iter
import HandS.SortInts
import HandS.Property
import HandS.MakeKw
import HandS.OwnEq
import PyProof.Laws
import HandS.New0
import KE.GoesZip
import KE.GoesEnum
import KE.GoesMore
import HandS.Rev
import KE.KDictList
import HandS.ExcSuper
import KE.KExcSuper
import HandS.HeadHook4
import HandS.EndBits
import PySem.Challenge.RW_dryholds_k17_half_planes_made_and_asked
import KE.KStateDown
import Open.Line
import HandS.Head0
import HandS.Head1
import HandS.Head2
import HandS.HeadEnd
set_option Elab.async false
set_option linter.all false
set_option maxRecDepth 100000
set_option maxHeartbeats 0
namespace DL
open PySem PySem.Spec L2
def plainN (x : Str) : Bool := !(x == ("__debug__" : Str)) && !(x == ("__classdict__" : Str)) && !(x == ("__name__" : Str))
def clsV : Sum String Addr → Value
  | .inl n => .type n
  | .inr D => .ref D
def neB (K : PySem.W.Frag) (C : Addr) : Bool := decide (PySem.W.findIn K (.ref C) "__ne__" = some (some (.builtin "object.__ne__"))) && decide (PySem.W.mroIn K C (.type "object") = some true)
def nfX (K : PySem.W.Frag) (t : Sum String Addr) (C : Addr) : Bool := if t = .inl "!=" then neB K C else PySem.W.notFirst K C (clsV t)
end DL
namespace DL
open PySem PySem.Spec L2
open PyProof.Rows (envOfC)
theorem no_cx {P : Program} {w : World} : ∀ o H s e s', ¬ L2.CX P w o H s (fun _ _ _ => False) e s' := fun _ _ _ _ _ h => by
  obtain ⟨_, _, _, _, _, _, _, _, _, _, _, _, z⟩ := h
  exact z
end DL
namespace DL
open PySem PySem.Spec L2
def chkPart (N : List Str) (sc : Scope) (tx : List Nat) : Expr → Bool
  | .Constant (.str y) _ _ => decide (y.length ≤ 1000)
  | .FormattedValue (.Name x _) c none _ => decide (c = -1) && tx.any (fun i => decide (N[i + 1]? = some x)) && decide (sc.names.lookup x = some .local) && plainN x
  | _ => false
def chkTx (N : List Str) (sc : Scope) (tx : List Nat) : Expr → Bool
  | .Constant (.str _) _ _ => true
  | .JoinedStr (v1 :: v2 :: rest) _ => decide (rest.length ≤ 8) && (v1 :: v2 :: rest).all (chkPart N sc tx)
  | _ => false
def chkFs (sc : Scope) : List Str → List Stmt → Bool
  | [], [] => true
  | f :: fs, .Assign [.Attribute (.Name s _) f' _] (.Name x _) _ :: r => decide (s = ("self" : Str)) && decide (f = f') && decide (x = f) && decide (sc.names.lookup f = some .local) && plainN f && chkFs sc fs r
  | _, _ => false
def chkBody (sc : Scope) (fs : List Str) (tx : List Nat) : List Stmt → Bool
  | .Expr (.Call (.Attribute (.Call (.Name s _) [] [] _) i p2) [e] [] p3) _ :: r => (p2.endLine == p3.line) && decide (s = ("super" : Str)) && decide (i = ("__init__" : Str)) && chkTx ("self" :: fs) sc tx e && chkFs sc fs r
  | _ => false
end DL
namespace DL
open PySem PySem.Spec L2
section
variable {CX : CXT} {P : Program} {w : World} {K : PySem.W.Frag} {mg : Str → Option Value} {base : Heap} {T : Tb} {Γ : Gm} {lv lv' : Nat}
def mkB (K : PySem.W.Frag) (C f : Addr) : Bool := PySem.W.makesIn K C && (decide (PySem.W.findIn K (.ref C) "__init__" = some (some (.ref f))) && (PySem.W.isFn K (.ref f) && PySem.W.keepIn K (.ref C)))
def metB (K : PySem.W.Frag) (C : Addr) (m : Str) (f : Addr) : Bool := decide (PySem.W.findIn K (.ref C) m = some (some (.ref f))) && (PySem.W.isFn K (.ref f) && PySem.W.keepIn K (.ref f))
def prpB (K : PySem.W.Frag) (C : Addr) (f : Str) (p g : Addr) : Bool := decide (PySem.W.findIn K (.ref C) f = some (some (.ref p))) && (decide (PySem.W.specialIn K (.ref p) "__get__" = some (some (.builtin "property.__get__"))) && (decide (PySem.W.takesIn K (.ref p) = some true) && (match PySem.W.recIn K p "property" with
  | some (.ref g' :: _) => decide (g' = g)
  | _ => false)))
end
end DL
namespace DL
open PySem PySem.Spec L2
def slotsB (sl : Array (Option Value)) : Bool := match sl.toList with
  | [_, _, _, _, some (.builtin n), _] => decide (n = "ValueError.__new__")
  | _ => false
def mroB (C : Addr) (l : List Value) : Bool := match l with
  | .ref c :: bm => decide (c = C) && PySem.HandSPX.refsVE bm
  | _ => false
def clsB (K : PySem.W.Frag) (C : Addr) : Bool := match K.lookup C with
  | some ⟨.type t, _, .cls cd, sl⟩ => decide (t = "type") && (mroB C cd.mro && (cd.hasDict && (!cd.hasDel && slotsB sl)))
  | _ => false
def oexB (K : PySem.W.Frag) (C : Addr) : Bool := clsB K C && (decide (PySem.W.findIn K (.ref C) "__setattr__" = some (some (.builtin "object.__setattr__"))) && (decide (PySem.W.subIn K (.ref C) (.type "BaseException") = some true) && (decide (PySem.W.typeIn K (.ref C) = some (.type "type")) && PySem.W.keepIn K (.ref C))))
def parB (a : Arguments) (ps : List Str) : Bool := match a with
  | ⟨[], as, none, [], [], none, []⟩ => decide (as.map (·.arg) = ps) && decide (as.length ≤ 4)
  | _ => false
def xscB (N ps : List Str) (sc : Scope) : Bool := decide (sc.kind = .function) && (!sc.isCoroutine && (!sc.isGenerator && (decide N.Nodup && (decide (N.take ps.length = ps) && (ps.all (fun x => decide (sc.names.lookup x = some .local)) && (sc.names.all (fun y => decide (y.2 ≠ .cell)) && sc.names.all (fun y => decide (y.2 ≠ .free) || decide (y.1 = ("__class__" : Str)))))))))
def codeB (P : Program) (K : PySem.W.Frag) (cd : Value) : Bool := match cd with
  | .ref c => (match K.lookup c with
    | some ⟨_, _, .fields vs, _⟩ => (match (vs[2]? : Option Value) with
      | some (.str file _) => (P.main.file : Str) == file
      | _ => false)
    | _ => false)
  | _ => false
def cellB (K : PySem.W.Frag) (cc C : Addr) : Bool := match K.lookup cc with
  | some ⟨_, _, .cell (some (.ref D)), _⟩ => decide (D = C)
  | _ => false
def iniB (P : Program) (K : PySem.W.Frag) (C : Addr) (fs : List Str) (tx : List Nat) (fd : FuncData) : Bool := match fd.body, fd.closure with
  | .stmts b, [(cn, cc)] => decide (fd.defaults = .none) && (decide (cn = ("__class__" : Str)) && (chkBody fd.scope fs tx b && (decide (fd.globals = mainGlobals) && (decide (fd.builtins = builtinsNs) && (xscB ("self" :: fs) ("self" :: fs) fd.scope && (parB fd.params ("self" :: fs) &&
      (PySem.W.codeIn K fd.code fd.qualname && (codeB P K fd.code && (cellB K cc C && (decide (fd.scope.names.lookup ("super" : Str) = some .globalImplicit) && (decide (fd.scope.names.lookup ("__class__" : Str) = some .free) && decide (fd.scope.names.lookup ("self" : Str) = some .local))))))))))))
  | _, _ => false
def errB (P : Program) (K : PySem.W.Frag) (C fI : Addr) (fs : List Str) (tx : List Nat) : Bool := oexB K C && (decide (PySem.W.findIn K (.ref C) "__init__" = some (some (.ref fI))) && (decide (PySem.W.typeIn K (.ref fI) = some (.type "function")) && (decide (fs.Nodup) && (decide (fs.length ≤ 3) &&
  (fs.all (fun f => decide (PySem.W.findIn K (.ref C) f = some none)) && (decide (PySem.W.mroIn K C (.ref C) = some true) && (decide (PySem.W.nsIn K mainGlobals "super" = some none) && (!(P.main.scope.names.lookup ("super" : Str)).isSome &&
  (decide (PySem.W.nsIn K cStatics "thirdparty.any" = some none) && (decide (PySem.W.ks_superIn K C C "__init__" = some (some (.builtin "ValueError.__init__"))) && (decide (PySem.W.subIn K (.ref C) (.type "ValueError") = some true) && (match K.lookup fI with
    | some ⟨_, _, .func fd, _⟩ => iniB P K C fs tx fd
    | _ => false))))))))))))
end DL
namespace DL
open PySem PySem.Spec L2
def frY (g : Addr → Option Obj) (n : Nat) : PySem.W.Frag := He.frG g (cStatics :: He.asD g n)
end DL
namespace DL
open PySem PySem.Spec L2
def excB (K : PySem.W.Frag) (D : Addr) : Bool := decide (PySem.W.findIn K (.ref D) "__getattribute__" = some (some (.builtin "BaseException.__getattribute__"))) && (decide (PySem.W.findIn K (.ref D) "__getattr__" = some none) && (decide (PySem.W.subIn K (.ref D) (.type "BaseException") = some true) &&
  (PySem.W.hasDictIn K D && (decide (PySem.W.findIn K (.ref D) "__class__" = some (some (.builtin "object.__class__"))) && (decide (PySem.W.specialIn K (.builtin "object.__class__") "__get__" = some (some (.builtin "getset_descriptor.__get__"))) &&
  (decide (PySem.W.takesIn K (.builtin "object.__class__") = some true) && decide (PySem.W.mroIn K D (.type "object") = some true)))))))
def subX (K : PySem.W.Frag) (C C' : Addr) : Option Bool := if excB K C = true then (match PySem.W.kitOne K (.ref C) (.ref C'), PySem.W.exmOne K (.ref C) (.ref C') with
  | some a, some b => if a = b then some a else none
  | _, _ => none) else none
def clsOB (K : PySem.W.Frag) (C : Addr) : Bool := PySem.W.plainGet K C Str.empty && (PySem.W.hasDictIn K C && (PySem.W.plainOver K C && decide (PySem.W.findIn K (.ref C) "__setattr__" = some (some (.builtin "object.__setattr__")))))
def insB (K : PySem.W.Frag) (C : Addr) : Bool := clsOB K C && (decide (PySem.W.findIn K (.ref C) "__class__" = some (some (.builtin "object.__class__"))) && (decide (PySem.W.specialIn K (.builtin "object.__class__") "__get__" = some (some (.builtin "getset_descriptor.__get__"))) &&
  (decide (PySem.W.takesIn K (.builtin "object.__class__") = some true) && decide (PySem.W.mroIn K C (.type "object") = some true))))
def isiX (K : PySem.W.Frag) : Sum String Addr → Addr → Option Bool
  | .inl n, C => PySem.W.kitOne K (.type n) (.ref C)
  | .inr D, C => if insB K D = true then PySem.W.kitOne K (.ref D) (.ref C) else none
end DL
namespace DL
open PySem PySem.Spec L2
def noL (K : PySem.W.Frag) : Bool := K.all fun p => !decide (p.2.cls = .type "list")
def spLawV (K : PySem.W.Frag) : Sp := fun vs H Q _ => ∃ (a : Addr) (ns : List Int), vs = [.ref a] ∧ ns.length ≤ 63 ∧ (∀ z ∈ ns, Builtin.Int.intBits z ≤ 1048576) ∧ SqL K H a (ns.map V.int) ∧ ∀ H', Q (.bl true) H'
theorem fnOk0 {P : Program} {w : World} {K : PySem.W.Frag} {mg : Str → Option Value} {base : Heap} {k : Nat} {f : Addr} {fd : FuncData} {ps : List Str} {sp : Sp} (F : FnOk P w K mg base (L2.CX P w) k f fd ps sp) (h : ∀ vs H Q E, sp vs H Q E → sp vs H Q fun _ _ _ => False) : FnOk P w K mg base CX0 k f fd ps sp :=
  ⟨F.len, fun A outer s H args us vs Q E hr he hb hv hs => codeAny_mono (F.run A outer s H args us vs Q (fun _ _ _ => False) hr he hb hv (h _ _ _ _ hs)) fun r s' hq => by
    cases r with
    | error e => exact (no_cx _ _ _ _ _ hq).elim
    | ok fl => cases fl <;> exact hq⟩
theorem walk_bits {l : PySem.W.OpenLaw} {n k : Nat} {q : Program} {loose : List Str} {XP : (Str → Option Value) → Heap → Prop} {YP : World → Heap → Prop} {d : DefRec} {x : Str}
    (hn : l.most = some n) (hn2 : n ≤ sizeLine) (hdf : d.params.defaults = []) (hr : Room k callerA)
    (F : ∀ (w : World) (mg : Str → Option Value) (fa : Addr) (h : Heap), YP w h → h.Ns mainGlobals mg → mg d.name = some (.ref fa) → ∃ (K : PySem.W.Frag) (fd : FuncData) (sp : Sp), K.In h ∧ (∀ (s : Shared) (u : Value), BindsTo s fd ⟨[u], []⟩ [(x, u)]) ∧
        (∀ (H : Hp) (a : Addr) (ns : List Int), ns.length ≤ n → (∀ z ∈ ns, Builtin.Int.intBits z ≤ 1048576) → Only H → SqL K H a (ns.map V.int) → sp [.ref a] H (fun v _ => v = .bl true) fun _ _ _ => False) ∧ ∀ base : Heap, K.In base → base.Ns mainGlobals mg → FnOk l.prog w K mg base CX0 k fa fd [x] sp) :
    PySem.W.WalkO q loose XP YP l.row.toRowW d [] (fun f vs => PySem.call f vs) := by
  refine Att.attach_callB hn hdf fun w s0 s1 mg mb fa o pm cd doc a vs ns G Y ho hd hcd hmg hobj hints hlen hbits hg => ?_
  obtain ⟨K, fd, sp, KX, hb, hsp, hF⟩ := (F w mg fa _ Y G.T.g hmg)
  exact law_call KX G.T.g G.T.b G.T.builtins G.T.nolimit hg hobj hints (Nat.le_trans hlen hn2) hr hF hb (fun H hO hS => hsp H a ns hlen hbits hO hS) (fun H e s' z => z.elim)
end DL
namespace DL
open PySem PySem.Spec L2
def pgA (K : PySem.W.Frag) (x f : Str) : Addr := match PySem.W.recIn K (He.ma K (He.ga K x) f) "property" with
  | some (.ref g :: _) => g
  | _ => 0
structure PrD where
  cl : Str
  nm : Str
  d : He.DefD
def PrD.ad (K : PySem.W.Frag) (p : PrD) : Addr := pgA K p.cl p.nm
def fnA (K : PySem.W.Frag) (a : Addr) : He.FnW := match K.lookup a with
  | some ⟨_, _, .func z, _⟩ => some (z.name, z.qualname, z.params, z.body, z.scope, z.globals, z.closure, z.builtins)
  | _ => none
def PrD.ok (K : PySem.W.Frag) (p : PrD) : Bool := PySem.W.keepIn K (.ref (p.ad K)) && (match K.lookup (p.ad K) with
  | some ⟨_, _, .func z, _⟩ => PySem.W.codeIn K z.code p.d.qual && (He.dflB K z.defaults (p.d.dvs K) && He.kwdB K z.kwdefaults (p.d.kws K))
  | _ => false)
def obsP (ps : List PrD) (K : PySem.W.Frag) : Bool × List He.FnW := (ps.all fun p => p.ok K, ps.map fun p => fnA K (p.ad K))
def valP (ps : List PrD) : Bool × List He.FnW := (true, ps.map fun p => p.d.val)
structure SaysQ (fa : List He.Fa) (fn : List He.DefD) (ps : List PrD) (K : PySem.W.Frag) : Prop where
  d : He.SaysD fa fn K
  p : obsP ps K = valP ps
def hookP (n : Nat) (fa : List He.Fa) (fn : List He.DefD) (ps : List PrD) (ex : PySem.W.Frag → Bool) : PySem.W.Hook where
  α := (He.AlD × (Bool × List He.FnW)) × Bool
  obs := fun s => ((He.obsD fa fn (frY s.heap.get? n), obsP ps (frY s.heap.get? n)), ex (frY s.heap.get? n))
  val := fun _ => ((He.valD fn, valP ps), true)
  says := fun _ h => ∃ K : PySem.W.Frag, K.In h ∧ SaysQ fa fn ps K ∧ ex K = true
  of := fun _ _ e => ⟨_, He.frG_in, ⟨congrArg (fun z : (He.AlD × (Bool × List He.FnW)) × Bool => z.1.1) e, congrArg (fun z : (He.AlD × (Bool × List He.FnW)) × Bool => z.1.2) e⟩, congrArg (fun z : (He.AlD × (Bool × List He.FnW)) × Bool => z.2) e⟩
  keeps := fun _ _ _ ⟨K, hK, c⟩ k => ⟨K, PySem.W.Frag.In.keeps hK k, c⟩
end DL
namespace LW
open PySem PySem.Spec PyProof.Rows L2 DL
def top (i : Nat) : Stmt := PySem.Challenge.pw_dryholds_k17_half_planes_made_and_asked.main.body.getD i (.Pass ⟨0, 0, 0, 0⟩)
def mth (i j : Nat) : Stmt := match top i with
  | .ClassDef _ _ _ body _ _ _ _ _ _ _ => body.getD j (.Pass ⟨0, 0, 0, 0⟩)
  | _ => .Pass ⟨0, 0, 0, 0⟩
def xnT : List Str := [(Str.ofString "abs"), (Str.ofString "all"), (Str.ofString "any"), (Str.ofString "bool"), (Str.ofString "divmod"), (Str.ofString "enumerate"), (Str.ofString "int"), (Str.ofString "isinstance"), (Str.ofString "len"), (Str.ofString "list"), (Str.ofString "max"), (Str.ofString "min"), (Str.ofString "range"), (Str.ofString "reversed"), (Str.ofString "sorted"), (Str.ofString "str"), (Str.ofString "sum"), (Str.ofString "tuple"), (Str.ofString "zip")]
def d_law_hand : He.DefD := ⟨("_law_hand", none), "_law_hand", "_law_hand", defArgs (top 17), defBody (top 17), defScope (top 17), [], []⟩
def d_law_mix : He.DefD := ⟨("_law_mix", none), "_law_mix", "_law_mix", defArgs (top 16), defBody (top 16), defScope (top 16), [], []⟩
def d_law_draw : He.DefD := ⟨("_law_draw", none), "_law_draw", "_law_draw", defArgs (top 18), defBody (top 18), defScope (top 18), [], []⟩
def d_law_pick : He.DefD := ⟨("_law_pick", none), "_law_pick", "_law_pick", defArgs (top 19), defBody (top 19), defScope (top 19), [], []⟩
def d_law_number : He.DefD := ⟨("_law_number", none), "_law_number", "_law_number", defArgs (top 27), defBody (top 27), defScope (top 27), [], []⟩
def d_law_gcd : He.DefD := ⟨("_law_gcd", none), "_law_gcd", "_law_gcd", defArgs (top 20), defBody (top 20), defScope (top 20), [], []⟩
def d_law_ratio : He.DefD := ⟨("_law_ratio", none), "_law_ratio", "_law_ratio", defArgs (top 21), defBody (top 21), defScope (top 21), [], []⟩
def d_law_any_ratio : He.DefD := ⟨("_law_any_ratio", none), "_law_any_ratio", "_law_any_ratio", defArgs (top 28), defBody (top 28), defScope (top 28), [], []⟩
def d_law_drawn : He.DefD := ⟨("_law_drawn", none), "_law_drawn", "_law_drawn", defArgs (top 32), defBody (top 32), defScope (top 32), [], []⟩
def d_row_of : He.DefD := ⟨("_row_of", none), "_row_of", "_row_of", defArgs (top 14), defBody (top 14), defScope (top 14), [], []⟩
def d_is_whole : He.DefD := ⟨("is_whole", none), "is_whole", "is_whole", defArgs (top 5), defBody (top 5), defScope (top 5), [.non, .non], []⟩
def d_is_ratio : He.DefD := ⟨("is_ratio", none), "is_ratio", "is_ratio", defArgs (top 6), defBody (top 6), defScope (top 6), [], []⟩
def d_HalfPlane_init : He.DefD := ⟨("HalfPlane", some "__init__"), "__init__", "HalfPlane.__init__", defArgs (mth 13 0), defBody (mth 13 0), defScope (mth 13 0), [(.bl false)], []⟩
def d_law_told : He.DefD := ⟨("_law_told", none), "_law_told", "_law_told", defArgs (top 34), defBody (top 34), defScope (top 34), [], []⟩
def d_law_odd : He.DefD := ⟨("_law_odd", none), "_law_odd", "_law_odd", defArgs (top 33), defBody (top 33), defScope (top 33), [], []⟩
def d_law_refused : He.DefD := ⟨("_law_refused", none), "_law_refused", "_law_refused", defArgs (top 35), defBody (top 35), defScope (top 35), [], []⟩
def d_negative : He.DefD := ⟨("negative", none), "negative", "negative", defArgs (top 11), defBody (top 11), defScope (top 11), [], []⟩
def d_HalfPlane_opposite : He.DefD := ⟨("HalfPlane", some "opposite"), "opposite", "HalfPlane.opposite", defArgs (mth 13 5), defBody (mth 13 5), defScope (mth 13 5), [], []⟩
def d_HalfPlane_eq : He.DefD := ⟨("HalfPlane", some "__eq__"), "__eq__", "HalfPlane.__eq__", defArgs (mth 13 1), defBody (mth 13 1), defScope (mth 13 1), [], []⟩
def d_lowest : He.DefD := ⟨("lowest", none), "lowest", "lowest", defArgs (top 7), defBody (top 7), defScope (top 7), [], []⟩
def d_minus : He.DefD := ⟨("minus", none), "minus", "minus", defArgs (top 9), defBody (top 9), defScope (top 9), [], []⟩
def d_plus : He.DefD := ⟨("plus", none), "plus", "plus", defArgs (top 8), defBody (top 8), defScope (top 8), [], []⟩
def d_times : He.DefD := ⟨("times", none), "times", "times", defArgs (top 10), defBody (top 10), defScope (top 10), [], []⟩
def d_HalfPlane_excess_at : He.DefD := ⟨("HalfPlane", some "excess_at"), "excess_at", "HalfPlane.excess_at", defArgs (mth 13 4), defBody (mth 13 4), defScope (mth 13 4), [], []⟩
def d_HalfPlane_closed : He.DefD := ⟨("HalfPlane", some "closed"), "closed", "HalfPlane.closed", defArgs (mth 13 6), defBody (mth 13 6), defScope (mth 13 6), [], []⟩
def d_law_is_truth : He.DefD := ⟨("_law_is_truth", none), "_law_is_truth", "_law_is_truth", defArgs (top 31), defBody (top 31), defScope (top 31), [], []⟩
def d_law_row : He.DefD := ⟨("_law_row", none), "_law_row", "_law_row", defArgs (top 36), defBody (top 36), defScope (top 36), [], []⟩
def d_HalfPlane_reach : He.DefD := ⟨("HalfPlane", some "reach"), "reach", "HalfPlane.reach", defArgs (mth 13 2), defBody (mth 13 2), defScope (mth 13 2), [], []⟩
def d_law_reach : He.DefD := ⟨("_law_reach", none), "_law_reach", "_law_reach", defArgs (top 37), defBody (top 37), defScope (top 37), [], []⟩
def d_law_is_whole : He.DefD := ⟨("_law_is_whole", none), "_law_is_whole", "_law_is_whole", defArgs (top 25), defBody (top 25), defScope (top 25), [], []⟩
def d_law_is_ratio : He.DefD := ⟨("_law_is_ratio", none), "_law_is_ratio", "_law_is_ratio", defArgs (top 26), defBody (top 26), defScope (top 26), [], []⟩
def d_law_fits : He.DefD := ⟨("_law_fits", none), "_law_fits", "_law_fits", defArgs (top 39), defBody (top 39), defScope (top 39), [], []⟩
def d_law_less : He.DefD := ⟨("_law_less", none), "_law_less", "_law_less", defArgs (top 24), defBody (top 24), defScope (top 24), [], []⟩
def d_law_plus : He.DefD := ⟨("_law_plus", none), "_law_plus", "_law_plus", defArgs (top 22), defBody (top 22), defScope (top 22), [], []⟩
def d_law_times : He.DefD := ⟨("_law_times", none), "_law_times", "_law_times", defArgs (top 23), defBody (top 23), defScope (top 23), [], []⟩
def d_law_excess : He.DefD := ⟨("_law_excess", none), "_law_excess", "_law_excess", defArgs (top 29), defBody (top 29), defScope (top 29), [], []⟩
def d_HalfPlane_holds_cargo : He.DefD := ⟨("HalfPlane", some "holds_cargo"), "holds_cargo", "HalfPlane.holds_cargo", defArgs (mth 13 3), defBody (mth 13 3), defScope (mth 13 3), [], []⟩
def d_law_is_in : He.DefD := ⟨("_law_is_in", none), "_law_is_in", "_law_is_in", defArgs (top 30), defBody (top 30), defScope (top 30), [], []⟩
def d_law_is_told : He.DefD := ⟨("_law_is_told", none), "_law_is_told", "_law_is_told", defArgs (top 40), defBody (top 40), defScope (top 40), [], []⟩
def d_law_points : He.DefD := ⟨("_law_points", none), "_law_points", "_law_points", defArgs (top 38), defBody (top 38), defScope (top 38), [], []⟩
def d_HalfPlane_is_same : He.DefD := ⟨("HalfPlane", some "is_same"), "is_same", "HalfPlane.is_same", defArgs (mth 13 7), defBody (mth 13 7), defScope (mth 13 7), [], []⟩
def d_law_same_points : He.DefD := ⟨("_law_same_points", none), "_law_same_points", "_law_same_points", defArgs (top 41), defBody (top 41), defScope (top 41), [], []⟩
def d_law_compared : He.DefD := ⟨("_law_compared", none), "_law_compared", "_law_compared", defArgs (top 42), defBody (top 42), defScope (top 42), [], []⟩
def d_law : He.DefD := ⟨("law", none), "law", "law", defArgs (top 43), defBody (top 43), defScope (top 43), [], []⟩
def fnl : List He.DefD := [d_law_hand, d_law_mix, d_law_draw, d_law_pick, d_law_number, d_law_gcd, d_law_ratio, d_law_any_ratio, d_law_drawn, d_row_of, d_is_whole, d_is_ratio, d_HalfPlane_init, d_law_told, d_law_odd, d_law_refused, d_negative, d_HalfPlane_opposite, d_HalfPlane_eq, d_lowest, d_minus, d_plus, d_times, d_HalfPlane_excess_at, d_HalfPlane_closed, d_law_is_truth, d_law_row, d_law_reach, d_law_is_whole, d_law_is_ratio, d_law_fits, d_law_less, d_law_plus, d_law_times, d_law_excess, d_HalfPlane_holds_cargo, d_law_is_in, d_law_is_told, d_law_points, d_HalfPlane_is_same, d_law_same_points, d_law_compared, d_law]
def psl : List DL.PrD := [⟨"HalfPlane", "reach", d_HalfPlane_reach⟩]
def fal : List He.Fa := [.glo "_law_hand", .glo "_law_mix", .glo "_law_draw", .glo "_law_pick", .glo "_law_number", .glo "_law_gcd", .glo "_law_ratio", .glo "_law_any_ratio", .glo "_law_drawn", .glo "_row_of", .glo "is_whole", .glo "is_ratio", .glo "_law_told", .glo "_law_odd", .glo "_law_refused", .glo "negative", .glo "lowest", .glo "minus", .glo "plus", .glo "times", .glo "_law_is_truth", .glo "_law_row", .glo "_law_reach", .glo "_law_is_whole", .glo "_law_is_ratio", .glo "_law_fits", .glo "_law_less", .glo "_law_plus", .glo "_law_times", .glo "_law_excess", .glo "_law_is_in", .glo "_law_is_told", .glo "_law_points", .glo "_law_same_points", .glo "_law_compared", .glo "law", .glo "ShipError", .glo "BadHalf", .glo "HalfPlane"] ++ xnT.map He.Fa.free
def exl (K : PySem.W.Frag) : Bool := (decide (PySem.W.nsIn K mainGlobals "gcd" = some (some (.builtin "math.gcd")))) && ((decide (PySem.W.nsIn K mainGlobals "lcm" = some (some (.builtin "math.lcm")))) && ((errB PySem.Challenge.pw_dryholds_k17_half_planes_made_and_asked K (He.ga K "BadHalf") (He.fAd K ("BadHalf", some "__init__")) ["what"] [0]) && ((clsOB K (He.ga K "HalfPlane")) && ((mkB K (He.ga K "HalfPlane") (He.fAd K ("HalfPlane", some "__init__"))) && ((metB K (He.ga K "HalfPlane") "opposite" (He.fAd K ("HalfPlane", some "opposite"))) && ((metB K (He.ga K "HalfPlane") "__eq__" (He.fAd K ("HalfPlane", some "__eq__"))) && ((metB K (He.ga K "HalfPlane") "excess_at" (He.fAd K ("HalfPlane", some "excess_at"))) && ((metB K (He.ga K "HalfPlane") "closed" (He.fAd K ("HalfPlane", some "closed"))) && ((prpB K (He.ga K "HalfPlane") "reach" (He.ma K (He.ga K "HalfPlane") "reach") (DL.pgA K "HalfPlane" "reach")) && ((metB K (He.ga K "HalfPlane") "holds_cargo" (He.fAd K ("HalfPlane", some "holds_cargo"))) && ((metB K (He.ga K "HalfPlane") "is_same" (He.fAd K ("HalfPlane", some "is_same"))) && ((decide (clsOB K (He.ga K "HalfPlane") = true)) && ((decide (PySem.W.findIn K (.ref (He.ga K "HalfPlane")) "p" = some none)) && ((decide (PySem.W.findIn K (.ref (He.ga K "HalfPlane")) "q" = some none)) && ((decide (PySem.W.findIn K (.ref (He.ga K "HalfPlane")) "r" = some none)) && ((decide (PySem.W.findIn K (.ref (He.ga K "HalfPlane")) "strict" = some none)) && ((decide (PySem.W.findIn K (.ref (He.ga K "HalfPlane")) "row" = some none)) && ((decide (subX K (He.ga K "BadHalf") (He.ga K "ShipError") = some true)) && ((decide (subX K (He.ga K "BadHalf") (He.ga K "BadHalf") = some true)) && ((decide (xfB K (He.ga K "BadHalf") = true)) && ((decide (PySem.W.findIn K (.ref (He.ga K "BadHalf")) "what" = some none)) && ((decide (isiX K (.inr (He.ga K "HalfPlane")) (He.ga K "HalfPlane") = some true)) && ((decide (isiX K (.inl "tuple") (He.ga K "HalfPlane") = some false)) && ((decide (isiX K (.inl "int") (He.ga K "HalfPlane") = some false)) && ((decide (nfX K (.inr (He.ga K "HalfPlane")) (He.ga K "HalfPlane") = true)) && ((decide (nfX K (.inl "tuple") (He.ga K "HalfPlane") = true)) && ((decide (nfX K (.inl "int") (He.ga K "HalfPlane") = true)) && ((decide (nfX K (.inl "!=") (He.ga K "HalfPlane") = true)) && ((noL K) && (true))))))))))))))))))))))))))))))
abbrev hk : PySem.W.Hook := DL.hookP 7 fal fnl psl exl
end LW
/-- the hook, with what is still to be shown -/
def LW.hkM {P : Prop} (_ : P) : PySem.W.Hook := LW.hk
section
open PySem PySem.W PySem.Calls PyProof.Rows
open PySem.Spec
open DL
open L2
local macro_rules
  | `($f:ident (LW.hkM $x)) => do
    let n := f.getId.eraseMacroScopes
    if n == `Hook.obs || n == `Hook.val then `($f LW.hk) else Lean.Macro.throwUnsupported
theorem LW.headL (facts : ∀ {w : World} {K : PySem.W.Frag} {h : Heap} {mg : Str → Option Value} {fa : Addr} (X : K.In h) (G : h.Ns mainGlobals mg) (hfa : mg ("law" : Str) = some (.ref fa)) (c : DL.SaysQ fal fnl psl K) (ce : exl K = true), ∃ fd : FuncData, (∀ (s : Shared) (v : Value), BindsTo s fd ⟨[v], []⟩ [("_law_script", v)]) ∧ ∀ base : Heap, K.In base → base.Ns mainGlobals mg → FnOk PySem.Challenge.pw_dryholds_k17_half_planes_made_and_asked w K mg base (L2.CX PySem.Challenge.pw_dryholds_k17_half_planes_made_and_asked w) 54 fa fd ["_law_script"] (spLawV K)) : PySem.Challenge.rw_dryholds_k17_half_planes_made_and_asked.Holds := by
  w_on; o_law
  o_head (LW.hkM @facts)
  case hw => w_witness2
  refine DL.walk_bits (l := PySem.Challenge.rw_dryholds_k17_half_planes_made_and_asked) (n := 63) (k := 54) (x := "_law_script") rfl (by decide) (by kernel_rfl) ⟨rfl, by decide, by decide⟩ ?F
  intro w mg fa h Y G hmg0
  obtain ⟨K, KX, c, ce⟩ := Y
  obtain ⟨fd, hb, hF⟩ := facts KX G hmg0 c ce
  exact ⟨K, fd, DL.spLawV K, KX, hb, fun H a ns hl hz _ hS => ⟨a, ns, rfl, hl, hz, hS, fun _ => rfl⟩, fun base b1 b2 => DL.fnOk0 (hF base b1 b2) fun vs H Q E h => h⟩
end
namespace DL
open PySem PySem.Spec L2
inductive D where
  | non | bl (b : Bool) | int (i : Int) | str (x : Str) | tup (ds : List D) | ref (a : Addr) | ty (n : String)
mutual
inductive Rep (K : PySem.W.Frag) (H : Hp) : D → V → Prop
  | non : Rep K H .non .non
  | bl (b : Bool) : Rep K H (.bl b) (.bl b)
  | int (i : Int) : Rep K H (.int i) (.int i)
  | str (x : Str) : Rep K H (.str x) (.str x)
  | ref (a : Addr) : Rep K H (.ref a) (.ref a)
  | ty (n : String) : Rep K H (.ty n) (.ty n)
  | tup {p : Addr} {vs : List V} {ds : List D} : SqT K H p vs → Reps K H ds vs → Rep K H (.tup ds) (.ref p)
inductive Reps (K : PySem.W.Frag) (H : Hp) : List D → List V → Prop
  | nil : Reps K H [] []
  | cons {d : D} {ds : List D} {v : V} {vs : List V} : Rep K H d v → Reps K H ds vs → Reps K H (d :: ds) (v :: vs)
end
def TX (H H' : Hp) : Prop := ∀ a xs, Rd H a (.tup xs) → Rd H' a (.tup xs)
theorem TX.refl (H : Hp) : TX H H := fun _ _ h => h
theorem TX.trans {H H1 H2 : Hp} (a : TX H H1) (b : TX H1 H2) : TX H H2 := fun c o h => b c o (a c o h)
theorem TX.sq {K : PySem.W.Frag} {H H' : Hp} (e : TX H H') {a : Addr} {xs : List V} (h : SqT K H a xs) : SqT K H' a xs := by
  rcases h with h | h
  · exact .inl (e _ _ h)
  · exact .inr h
theorem TX.of_same {H H' : Hp} (e : Same H H') : TX H H' := fun a xs h => by
  rcases h with h | ⟨o, h⟩
  · exact .inl (e _ _ h)
  · exact .inr ⟨o, e _ _ h⟩
theorem TX.new {H : Hp} {p : Addr} {o : HO} (h : H p = none) : TX H (upd H p o) := TX.of_same fun b o' e => by
  rw [upd_ne (ne_of_none e h)]; exact e
theorem TX.put {H : Hp} {p : Addr} {o u : HO} (h : H p = some u) (h1 : ∀ xs, u ≠ .tup xs) (h2 : ∀ ob w, u ≠ .frz ob w) : TX H (upd H p o) := fun a xs q => by
  rcases q with q | ⟨ob, q⟩
  · exact .inl (by rw [upd_ne (fun e => by subst e; rw [h] at q; exact h1 xs (Option.some.inj q))]; exact q)
  · exact .inr ⟨ob, by rw [upd_ne (fun e => by subst e; rw [h] at q; exact h2 ob _ (Option.some.inj q))]; exact q⟩
mutual
theorem Rep.mono {K : PySem.W.Frag} {H H' : Hp} (e : TX H H') : ∀ {d : D} {v : V}, Rep K H d v → Rep K H' d v
  | _, _, .non => .non
  | _, _, .bl b => .bl b
  | _, _, .int i => .int i
  | _, _, .str x => .str x
  | _, _, .ref a => .ref a
  | _, _, .ty n => .ty n
  | _, _, .tup h r => .tup (e.sq h) (Reps.mono e r)
theorem Reps.mono {K : PySem.W.Frag} {H H' : Hp} (e : TX H H') : ∀ {ds : List D} {vs : List V}, Reps K H ds vs → Reps K H' ds vs
  | _, _, .nil => .nil
  | _, _, .cons h r => .cons (Rep.mono e h) (Reps.mono e r)
end
section
variable {K : PySem.W.Frag} {H : Hp}
theorem Reps.length : ∀ {ds : List D} {vs : List V}, Reps K H ds vs → ds.length = vs.length
  | _, _, .nil => rfl
  | _, _, .cons _ r => by simp [Reps.length r]
theorem Reps.get : ∀ {ds : List D} {vs : List V} {i : Nat} {d : D}, Reps K H ds vs → ds[i]? = some d → ∃ v, vs[i]? = some v ∧ Rep K H d v
  | _, _, _, _, .nil, e => by simp at e
  | _, _, 0, _, .cons r _, e => by simp at e; subst e; exact ⟨_, rfl, r⟩
  | _, _, i + 1, d, .cons _ t, e => by
    obtain ⟨u, h1, h2⟩ := Reps.get (i := i) (d := d) t (by simpa using e)
    exact ⟨u, by simpa using h1, h2⟩
theorem Reps.append : ∀ {ds es : List D} {vs ws : List V}, Reps K H ds vs → Reps K H es ws → Reps K H (ds ++ es) (vs ++ ws)
  | _, _, _, _, .nil, s => s
  | _, _, _, _, .cons r t, s => .cons r (Reps.append t s)
theorem Reps.take : ∀ {ds : List D} {vs : List V} (n : Nat), Reps K H ds vs → Reps K H (ds.take n) (vs.take n)
  | _, _, 0, _ => .nil
  | _, _, _ + 1, .nil => .nil
  | _, _, n + 1, .cons r t => .cons r (Reps.take n t)
theorem Reps.drop : ∀ {ds : List D} {vs : List V} (n : Nat), Reps K H ds vs → Reps K H (ds.drop n) (vs.drop n)
  | _, _, 0, r => r
  | _, _, _ + 1, .nil => .nil
  | _, _, n + 1, .cons _ t => Reps.drop n t
theorem Reps.set {d : D} {v : V} (r : Rep K H d v) : ∀ {ds : List D} {vs : List V} (i : Nat), Reps K H ds vs → Reps K H (ds.set i d) (vs.set i v)
  | _, _, _, .nil => .nil
  | _, _, 0, .cons _ t => .cons r t
  | _, _, i + 1, .cons q t => .cons q (Reps.set r i t)
theorem Reps.ints : ∀ (ns : List Int), Reps K H (ns.map D.int) (ns.map V.int)
  | [] => .nil
  | n :: ns => .cons (.int n) (Reps.ints ns)
theorem Reps.one {d : D} {vs : List V} (r : Reps K H [d] vs) : ∃ v, vs = [v] ∧ Rep K H d v := by
  cases r with
  | cons h t => cases t; exact ⟨_, rfl, h⟩
theorem Reps.two {d e : D} {vs : List V} (r : Reps K H [d, e] vs) : ∃ v w, vs = [v, w] ∧ Rep K H d v ∧ Rep K H e w := by
  cases r with
  | cons h t => obtain ⟨w, rfl, q⟩ := t.one; exact ⟨_, _, rfl, h, q⟩
end
inductive MO where
  | lst (ds : List D)
  | rol (ds : List D)
  | ins (C : Addr) (fs : List (Str × D))
  | exd (fs : List (Str × D))
abbrev Mm := Addr → Option MO
def Mm.put (M : Mm) (a : Addr) (o : MO) : Mm := fun b => if b = a then some o else M b
theorem Mm.put_same {M : Mm} {a : Addr} {o : MO} : M.put a o a = some o := by unfold Mm.put; rw [if_pos rfl]
theorem Mm.put_ne {M : Mm} {a b : Addr} {o : MO} (h : b ≠ a) : M.put a o b = M b := by unfold Mm.put; rw [if_neg h]
def Mm.le (M M' : Mm) : Prop := ∀ a o, M a = some o → M' a = some o
theorem Mm.le_refl (M : Mm) : M.le M := fun _ _ h => h
theorem Mm.le_trans {M M1 M2 : Mm} (a : M.le M1) (b : M1.le M2) : M.le M2 := fun c o h => b c o (a c o h)
theorem Mm.le_new {M : Mm} {a : Addr} {o : MO} (h : M a = none) : M.le (M.put a o) := fun b u e => by
  by_cases q : b = a
  · subst q; rw [h] at e; cases e
  · rw [Mm.put_ne q]; exact e
def RepM (K : PySem.W.Frag) (H : Hp) (a : Addr) : MO → Prop
  | .lst ds => ∃ vs, H a = some (.lst vs) ∧ Reps K H ds vs
  | .rol ds => ∃ vs o, H a = some (.frz o (.lst vs)) ∧ Reps K H ds vs
  | .ins C fs => ∃ dx vfs, H a = some (.ins C dx vfs) ∧ vfs.length ≤ fs.length ∧ (∀ f d, fs.lookup f = some d → ∃ v, vfs.lookup f = some v ∧ Rep K H d v) ∧ (∀ f, fs.lookup f = none → vfs.lookup f = none)
  | .exd fs => ∃ vfs, H a = some (.xd vfs) ∧ ∀ f d, fs.lookup f = some d → ∃ v, vfs.lookup f = some v ∧ Rep K H d v
def RelM (K : PySem.W.Frag) (M : Mm) (H : Hp) : Prop := ∀ a o, M a = some o → RepM K H a o
section
variable {K : PySem.W.Frag} {H H' : Hp} {M : Mm} {a : Addr} {o : MO}
theorem RepM.some (h : RepM K H a o) : H a ≠ none := by
  cases o with
  | lst ds => obtain ⟨vs, e, _⟩ := h; rw [e]; simp
  | rol ds => obtain ⟨vs, o, e, _⟩ := h; rw [e]; simp
  | ins C fs => obtain ⟨dx, vfs, e, _⟩ := h; rw [e]; simp
  | exd fs => obtain ⟨vfs, e, _⟩ := h; rw [e]; simp
theorem RepM.keep (h : RepM K H a o) (e : TX H H') (k : H' a = H a) : RepM K H' a o := by
  cases o with
  | lst ds => obtain ⟨vs, q, r⟩ := h; exact ⟨vs, k.trans q, r.mono e⟩
  | rol ds => obtain ⟨vs, o, q, r⟩ := h; exact ⟨vs, o, k.trans q, r.mono e⟩
  | ins C fs =>
    obtain ⟨dx, vfs, q, hl, r, n⟩ := h
    exact ⟨dx, vfs, k.trans q, hl, fun f d hf => by obtain ⟨v, h1, h2⟩ := r f d hf; exact ⟨v, h1, h2.mono e⟩, n⟩
  | exd fs =>
    obtain ⟨vfs, q, r⟩ := h
    exact ⟨vfs, k.trans q, fun f d hf => by obtain ⟨v, h1, h2⟩ := r f d hf; exact ⟨v, h1, h2.mono e⟩⟩
theorem RelM.free (r : RelM K M H) (h : H a = none) : M a = none := by
  cases q : M a with
  | none => rfl
  | some o => exact absurd h (r a o q).some
theorem RelM.sq (r : RelM K M H) {ds : List D} (h : M a = some (.lst ds) ∨ M a = some (.rol ds)) : ∃ vs, SqL K H a vs ∧ Reps K H ds vs := by
  rcases h with h | h
  · obtain ⟨vs, e, q⟩ := r a _ h; exact ⟨vs, SqL.of e, q⟩
  · obtain ⟨vs, o, e, q⟩ := r a _ h; exact ⟨vs, .inl (.inr ⟨o, e⟩), q⟩
theorem RelM.new {p : Addr} {u : HO} (r : RelM K M H) (h : H p = none) : RelM K M (upd H p u) := fun a o e =>
  (r a o e).keep (TX.new h) (upd_ne fun q => by subst q; exact absurd h (r a o e).some)
theorem RelM.newL {p : Addr} {vs : List V} {ds : List D} (r : RelM K M H) (h : H p = none) (q : Reps K H ds vs) : RelM K (M.put p (.lst ds)) (upd H p (.lst vs)) := fun a o e => by
  by_cases ha : a = p
  · subst ha; rw [Mm.put_same] at e; cases e
    exact ⟨vs, upd_same, q.mono (TX.new h)⟩
  · rw [Mm.put_ne ha] at e; exact r.new h a o e
theorem RelM.putL {p : Addr} {ws vs : List V} {ds : List D} (r : RelM K M H) (h : H p = some (.lst ws)) (q : Reps K H ds vs) : RelM K (M.put p (.lst ds)) (upd H p (.lst vs)) := fun a o e => by
  have t : TX H (upd H p (.lst vs)) := TX.put h (fun _ z => by cases z) (fun _ _ z => by cases z)
  by_cases ha : a = p
  · subst ha; rw [Mm.put_same] at e; cases e
    exact ⟨vs, upd_same, q.mono t⟩
  · rw [Mm.put_ne ha] at e; exact (r a o e).keep t (upd_ne ha)
end
abbrev DEnv := List (Option D)
structure RelE (K : PySem.W.Frag) (H : Hp) (ρ : DEnv) (σ : St) : Prop where
  len : ρ.length = σ.length
  at_ : ∀ (i : Nat) (d : D), ρ[i]? = some (some d) → ∃ v, σ[i]? = some (some v) ∧ Rep K H d v
theorem RelE.mono {K : PySem.W.Frag} {H H' : Hp} {ρ : DEnv} {σ : St} (e : TX H H') (r : RelE K H ρ σ) : RelE K H' ρ σ :=
  ⟨r.len, fun i d h => let ⟨v, a, b⟩ := r.at_ i d h; ⟨v, a, b.mono e⟩⟩
theorem RelE.set {K : PySem.W.Frag} {H : Hp} {ρ : DEnv} {σ : St} {i : Nat} {d : D} {v : V} (r : RelE K H ρ σ) (h : Rep K H d v) : RelE K H (ρ.set i (some d)) (σ.set i (some v)) := by
  refine ⟨by simp [r.len], fun j e hj => ?_⟩
  by_cases hi : i = j
  · subst hi
    by_cases hl : i < ρ.length
    · rw [List.getElem?_set_self hl] at hj; cases hj
      exact ⟨v, by rw [List.getElem?_set_self (by rw [← r.len]; exact hl)], h⟩
    · rw [List.getElem?_eq_none (by simpa using hl)] at hj; cases hj
  · rw [List.getElem?_set_ne hi] at hj
    obtain ⟨w, a, b⟩ := r.at_ j e hj
    exact ⟨w, by rw [List.getElem?_set_ne hi]; exact a, b⟩
theorem RelE.start {K : PySem.W.Frag} {H : Hp} {N : List Str} {ds : List D} {vs : List V} (r : Reps K H ds vs) : RelE K H (ds.map some ++ List.replicate (N.length - ds.length) none) (start N vs) := by
  unfold L2.start
  refine ⟨by simp [r.length], fun i d h => ?_⟩
  by_cases hi : i < ds.length
  · rw [List.getElem?_append_left (by simpa using hi), List.getElem?_map] at h
    cases q : ds[i]? with
    | none => rw [q] at h; cases h
    | some e =>
      rw [q] at h; cases h
      obtain ⟨v, a, b⟩ := r.get q
      exact ⟨v, by rw [List.getElem?_append_left (by have := r.length; simp; omega), List.getElem?_map, a]; rfl, b⟩
  · rw [List.getElem?_append_right (by simpa using hi), List.getElem?_replicate] at h
    split at h <;> cases h
structure Rel (K : PySem.W.Frag) (ρ : DEnv) (M : Mm) (σ : St) (H : Hp) : Prop where
  env : RelE K H ρ σ
  mem : RelM K M H
structure Xd where
  C : Addr
  d : Option Addr
def RelX (K : PySem.W.Frag) (H : Hp) (x : Xd) (cls : Value) (dd : Option Addr) : Prop :=
  cls = .ref x.C ∧ dd = x.d
abbrev EK := Xd → Mm → Prop
abbrev QD := D → Mm → Prop
abbrev TD := DEnv → Mm → EK → QD → Prop
abbrev TDs := DEnv → Mm → EK → (List D → Mm → Prop) → Prop
abbrev TDt := DEnv → Mm → EK → (Bool → Mm → Prop) → Prop
abbrev DSp := List D → Mm → EK → QD → Prop
def lift (K : PySem.W.Frag) (W : WX) (td : TD) : TE := fun σ H Q => ∃ ρ M E Qd, Rel K ρ M σ H ∧ td ρ M E Qd ∧
  (∀ d M' v H', TX H H' → Rel K ρ M' σ H' → Rep K H' d v → Qd d M' → Q v H') ∧
  (∀ x M' cls dd H', TX H H' → Rel K ρ M' σ H' → RelX K H' x cls dd → E x M' → W cls dd σ H')
def liftA (K : PySem.W.Frag) (W : WX) (td : TDs) : TA := fun σ H Q => ∃ ρ M E Qd, Rel K ρ M σ H ∧ td ρ M E Qd ∧
  (∀ ds M' vs H', TX H H' → Rel K ρ M' σ H' → Reps K H' ds vs → Qd ds M' → Q vs H') ∧
  (∀ x M' cls dd H', TX H H' → Rel K ρ M' σ H' → RelX K H' x cls dd → E x M' → W cls dd σ H')
def liftT (K : PySem.W.Frag) (W : WX) (td : TDt) : TT := fun σ H Q => ∃ ρ M E Qd, Rel K ρ M σ H ∧ td ρ M E Qd ∧
  (∀ b M' H', TX H H' → Rel K ρ M' σ H' → Qd b M' → Q b H') ∧
  (∀ x M' cls dd H', TX H H' → Rel K ρ M' σ H' → RelX K H' x cls dd → E x M' → W cls dd σ H')
theorem PE.imp {X : Cx} {e : Expr} {t t' : TE} (h : PE X e t) (i : ∀ σ H Q, t' σ H Q → t σ H Q) : PE X e t' := ⟨fun pins s σ H Q I q => h.run pins s σ H Q I (i σ H Q q)⟩
theorem PT.imp {X : Cx} {e : Expr} {t t' : TT} (h : PT X e t) (i : ∀ σ H Q, t' σ H Q → t σ H Q) : PT X e t' := ⟨fun pins s σ H Q I q => h.run pins s σ H Q I (i σ H Q q)⟩
theorem PA.imp {X : Cx} {e : List Expr} {t t' : TA} (h : PA X e t) (i : ∀ σ H Q, t' σ H Q → t σ H Q) : PA X e t' := ⟨fun pos pins s σ H Q I q => h.run pos pins s σ H Q I (i σ H Q q)⟩
theorem PE.never {X : Cx} {e : Expr} {t : TE} (i : ∀ σ H Q, ¬ t σ H Q) : PE X e t := ⟨fun pins s σ H Q I q => absurd q (i σ H Q)⟩
section
variable {K : PySem.W.Frag} {W : WX} {σ : St} {H : Hp} {ta tb : TD}
theorem lift1 {r : V → Hp → VK → Prop} {rd : D → Mm → EK → QD → Prop} {Q : VK}
    (h : lift K W (fun ρ M E Qd => ta ρ M E fun d M1 => rd d M1 E Qd) σ H Q)
    (step : ∀ d v M1 H1 ρ E Qd, Rel K ρ M1 σ H1 → Rep K H1 d v → rd d M1 E Qd →
      (∀ d M' v H', TX H1 H' → Rel K ρ M' σ H' → Rep K H' d v → Qd d M' → Q v H') →
      (∀ x M' cls dd H', TX H1 H' → Rel K ρ M' σ H' → RelX K H' x cls dd → E x M' → W cls dd σ H') → r v H1 Q) :
    lift K W ta σ H fun v H1 => r v H1 Q := by
  obtain ⟨ρ, M, E, Qd, R, t, q, x⟩ := h
  exact ⟨ρ, M, E, _, R, t, fun d M1 v H1 e R1 r1 h1 => step d v M1 H1 ρ E Qd R1 r1 h1
    (fun d M' v H' e' R' r' h' => q d M' v H' (e.trans e') R' r' h') (fun x' M' c dd H' e' R' rx h' => x x' M' c dd H' (e.trans e') R' rx h'), x⟩
theorem lift2 {r : R2} {rd : D → D → Mm → EK → QD → Prop} {Q : VK}
    (h : lift K W (fun ρ M E Qd => ta ρ M E fun d M1 => tb ρ M1 E fun e M2 => rd d e M2 E Qd) σ H Q)
    (step : ∀ d e v u M2 H2 ρ E Qd, Rel K ρ M2 σ H2 → Rep K H2 d v → Rep K H2 e u → rd d e M2 E Qd →
      (∀ d M' v H', TX H2 H' → Rel K ρ M' σ H' → Rep K H' d v → Qd d M' → Q v H') →
      (∀ x M' cls dd H', TX H2 H' → Rel K ρ M' σ H' → RelX K H' x cls dd → E x M' → W cls dd σ H') → r v u H2 Q) :
    lift K W ta σ H fun v H1 => lift K W tb σ H1 fun u H2 => r v u H2 Q := by
  obtain ⟨ρ, M, E, Qd, R, t, q, x⟩ := h
  exact ⟨ρ, M, E, _, R, t, fun d M1 v H1 e R1 r1 h1 => ⟨ρ, M1, E, _, R1, h1, fun d2 M2 u H2 e2 R2 r2 h2 =>
    step d d2 v u M2 H2 ρ E Qd R2 (r1.mono e2) r2 h2
      (fun d M' v H' e' R' r' h' => q d M' v H' ((e.trans e2).trans e') R' r' h') (fun x' M' c dd H' e' R' rx h' => x x' M' c dd H' ((e.trans e2).trans e') R' rx h'),
    fun x' M' c dd H' e' R' rx h' => x x' M' c dd H' (e.trans e') R' rx h'⟩, x⟩
theorem liftA1 {t : TDs} {r : List V → Hp → VK → Prop} {rd : List D → Mm → EK → QD → Prop} {Q : VK}
    (h : lift K W (fun ρ M E Qd => t ρ M E fun ds M1 => rd ds M1 E Qd) σ H Q)
    (step : ∀ ds vs M1 H1 ρ E Qd, Rel K ρ M1 σ H1 → Reps K H1 ds vs → rd ds M1 E Qd →
      (∀ d M' v H', TX H1 H' → Rel K ρ M' σ H' → Rep K H' d v → Qd d M' → Q v H') →
      (∀ x M' cls dd H', TX H1 H' → Rel K ρ M' σ H' → RelX K H' x cls dd → E x M' → W cls dd σ H') → r vs H1 Q) :
    liftA K W t σ H fun vs H1 => r vs H1 Q := by
  obtain ⟨ρ, M, E, Qd, R, t, q, x⟩ := h
  exact ⟨ρ, M, E, _, R, t, fun d M1 v H1 e R1 r1 h1 => step d v M1 H1 ρ E Qd R1 r1 h1
    (fun d M' v H' e' R' r' h' => q d M' v H' (e.trans e') R' r' h') (fun x' M' c dd H' e' R' rx h' => x x' M' c dd H' (e.trans e') R' rx h'), x⟩
end
end DL
namespace DL
open PySem PySem.Spec L2
def seqD (M : Mm) : D → Option (List D)
  | .tup ds => some ds
  | .ref a => match M a with
    | some (.lst ds) => some ds
    | some (.rol ds) => some ds
    | _ => none
  | _ => none
def toPys (f : D → Option PyData) : List D → Option (List PyData)
  | [] => some []
  | d :: ds => match f d, toPys f ds with
    | some p, some ps => some (p :: ps)
    | _, _ => none
def toPy (M : Mm) : Nat → D → Option PyData
  | 0, _ => none
  | n + 1, d => match d with
    | .non => some .none
    | .bl b => some (.bool b)
    | .int i => some (.int i)
    | .str x => if PySem.PyData.strOk x then some (.str x) else none
    | .tup ds => match toPys (toPy M n) ds with | some ps => some (.tuple ps) | none => none
    | .ref a => match M a with
      | some (.lst ds) => (match toPys (toPy M n) ds with | some ps => some (.list ps) | none => none)
      | some (.rol ds) => (match toPys (toPy M n) ds with | some ps => some (.list ps) | none => none)
      | _ => none
    | .ty _ => none
def D.isNon : D → Bool
  | .non => true
  | _ => false
def D.flat : D → Bool
  | .non => true
  | .bl _ => true
  | .int _ => true
  | .str _ => true
  | _ => false
def D.toV : D → V
  | .non => .non
  | .bl b => .bl b
  | .int i => .int i
  | .str x => .str x
  | .tup _ => .non
  | .ref a => .ref a
  | .ty n => .ty n
def isB : D → Bool → Bool
  | .bl a, b => decide (a = b)
  | _, _ => false
def cmpD (M : Mm) : CmpOp → D → D → Option Bool
  | .Lt, .int i, .int j => some (decide (i < j))
  | .LtE, .int i, .int j => some (decide (i ≤ j))
  | .Gt, .int i, .int j => some (decide (j < i))
  | .GtE, .int i, .int j => some (decide (j ≤ i))
  | .Eq, x, y => match toPy M 9 x, toPy M 9 y with
    | some p, some q => some (PyData.eqv p q)
    | _, _ => none
  | .NotEq, x, y => match toPy M 9 x, toPy M 9 y with
    | some p, some q => some (!PyData.eqv p q)
    | _, _ => none
  | .Is, x, .non => some x.isNon
  | .IsNot, x, .non => some (!x.isNon)
  | .Is, x, .bl b => some (isB x b)
  | .IsNot, x, .bl b => some (!isB x b)
  | .In, x, y => match seqD M y with
    | some ds => if x.flat && ds.all D.flat then some (inV x.toV (ds.map D.toV)) else none
    | none => none
  | .NotIn, x, y => match seqD M y with
    | some ds => if x.flat && ds.all D.flat then some (!inV x.toV (ds.map D.toV)) else none
    | none => none
  | _, _, _ => none
abbrev RD := D → D → Mm → QD → Prop
def MulB (i j : Int) : Prop := i.natAbs.log2 + j.natAbs.log2 < 100000000
def DivB (j : Int) : Prop := j ≠ 0 ∧ j.natAbs.log2 < 9000
def opD (o : Operator) : RD := fun x y M Q => match o, x, y with
  | .Add, .int i, .int j => Q (.int (i + j)) M
  | .Sub, .int i, .int j => Q (.int (i - j)) M
  | .Mult, .int i, .int j => MulB i j ∧ Q (.int (i * j)) M
  | .FloorDiv, .int i, .int j => DivB j ∧ Q (.int (i.fdiv j)) M
  | .Mod, .int i, .int j => 0 < j ∧ Q (.int (i % j)) M
  | .Pow, .int i, .int j => CPow i j ∧ Q (.int (i ^ j.toNat)) M
  | .Add, .str i, .str j => i.length + j.length ≤ sizeLine ∧ Q (.str (i ++ j)) M
  | .Add, .tup xs, .tup ys => xs.length + ys.length ≤ sizeLine ∧ Q (.tup (xs ++ ys)) M
  | .Add, .ref a, .ref b => ∃ xs ys, M a = some (.lst xs) ∧ M b = some (.lst ys) ∧ xs.length + ys.length ≤ sizeLine ∧ ∀ p, M p = none → Q (.ref p) (M.put p (.lst (xs ++ ys)))
  | .Mult, .ref a, .int k => ∃ xs, M a = some (.lst xs) ∧ 0 ≤ k ∧ k < 2 ^ 62 ∧ xs.length * k.toNat ≤ sizeLine ∧ ∀ p, M p = none → Q (.ref p) (M.put p (.lst (List.replicate k.toNat xs).flatten))
  | _, _, _ => False
def ixD : RD := fun x y M Q => match x, y with
  | .tup ds, .int i => ∃ d, atI ds i = some d ∧ Q d M
  | .ref a, .int i => ∃ ds, (M a = some (.lst ds) ∨ M a = some (.rol ds)) ∧ ∃ d, atI ds i = some d ∧ Q d M
  | .str z, .int i => z.length ≤ sizeLine ∧ ∃ c, atI z.cps.toList i = some c ∧ Q (.str ⟨#[c]⟩) M
  | _, _ => False
def cutD (xs : List D) (lo hi : Option Int) : List D := (xs.drop (HT.sIx xs.length 0 lo)).take (HT.sIx xs.length xs.length hi - HT.sIx xs.length 0 lo)
def slcD (x : D) (lo hi : Option Int) (M : Mm) (Q : QD) : Prop := match x with
  | .tup ds => Q (.tup (cutD ds lo hi)) M
  | .ref a => ∃ ds, (M a = some (.lst ds) ∨ M a = some (.rol ds)) ∧ ∀ p, M p = none → Q (.ref p) (M.put p (.lst (cutD ds lo hi)))
  | _ => False
def truD (M : Mm) : D → Option Bool
  | .non => some false
  | .bl b => some b
  | .int i => some (i != 0)
  | .tup ds => some (!ds.isEmpty)
  | .ref a => match M a with
    | some (.lst ds) => some (!ds.isEmpty)
    | some (.rol ds) => some (!ds.isEmpty)
    | _ => none
  | _ => none
def liftR (K : PySem.W.Frag) (rd : RD) : R2 := fun v u H Q => ∃ d e M Qd, RelM K M H ∧ Rep K H d v ∧ Rep K H e u ∧ rd d e M Qd ∧
  ∀ d' M' v' H', TX H H' → RelM K M' H' → Rep K H' d' v' → Qd d' M' → Q v' H'
def liftC (K : PySem.W.Frag) (rd : List D → Mm → QD → Prop) : List V → Hp → VK → Prop := fun vs H Q => ∃ ds M Qd, RelM K M H ∧ Reps K H ds vs ∧ rd ds M Qd ∧
  ∀ d' M' v' H', TX H H' → RelM K M' H' → Rep K H' d' v' → Qd d' M' → Q v' H'
section
variable {K : PySem.W.Frag} {H : Hp} {M : Mm} {d : D} {v : V}
theorem Rep.tup_inv {ds : List D} (h : Rep K H (.tup ds) v) : ∃ p vs, v = .ref p ∧ SqT K H p vs ∧ Reps K H ds vs := by
  cases h with | tup a b => exact ⟨_, _, rfl, a, b⟩
theorem Rep.isNon (h : Rep K H d v) : decide (v = .non) = d.isNon := by
  cases h <;> simp [D.isNon]
theorem seqD_sq {ds : List D} (h : seqD M d = some ds) (r : Rep K H d v) (m : RelM K M H) : ∃ a vs, v = .ref a ∧ (SqL K H a vs ∨ SqT K H a vs) ∧ Reps K H ds vs := by
  cases r with
  | tup s q => simp only [seqD, Option.some.injEq] at h; subst h; exact ⟨_, _, rfl, .inr s, q⟩
  | ref a =>
    simp only [seqD] at h
    split at h
    · rename_i e; cases h; obtain ⟨vs, a1, a2⟩ := m.sq (.inl e); exact ⟨_, vs, rfl, .inl a1, a2⟩
    · rename_i e; cases h; obtain ⟨vs, a1, a2⟩ := m.sq (.inr e); exact ⟨_, vs, rfl, .inl a1, a2⟩
    · cases h
  | _ => simp [seqD] at h
theorem toPy_dp (m : RelM K M H) : ∀ (n : Nat) (d : D) (v : V) (p : PyData), toPy M n d = some p → Rep K H d v → Dp K H v p ∧ p.canLay0 = true ∧ p.depth ≤ n
  | 0, d, v, p, h, _ => by simp [toPy] at h
  | n + 1, d, v, p, h, r => by
    have all : ∀ (ds : List D) (vs : List V) (ps : List PyData), toPys (toPy M n) ds = some ps → Reps K H ds vs → DpAll K H vs ps ∧ PyData.canLayAll0 ps = true ∧ PyData.depthAll ps ≤ n := by
      intro ds
      induction ds with
      | nil => intro vs ps h r; cases r; simp only [toPys, Option.some.injEq] at h; subst h; exact ⟨.nil, rfl, by simp [PyData.depthAll]⟩
      | cons e ds ih =>
        intro vs ps h r
        cases r with
        | cons r1 r2 =>
          simp only [toPys] at h
          split at h
          · rename_i p q h1 h2
            cases h
            obtain ⟨a1, a2, a3⟩ := toPy_dp m n e _ p h1 r1
            obtain ⟨b1, b2, b3⟩ := ih _ _ h2 r2
            exact ⟨.cons a1 b1, by simp [PyData.canLayAll0, a2, b2], by simp only [PyData.depthAll]; omega⟩
          · cases h
    cases r with
    | non => simp only [toPy, Option.some.injEq] at h; subst h; exact ⟨.non, rfl, by simp [PyData.depth]⟩
    | bl b => simp only [toPy, Option.some.injEq] at h; subst h; exact ⟨.bl b, rfl, by simp [PyData.depth]⟩
    | int b => simp only [toPy, Option.some.injEq] at h; subst h; exact ⟨.int b, rfl, by simp [PyData.depth]⟩
    | str x =>
      simp only [toPy] at h
      split at h
      · rename_i hx; cases h; exact ⟨.str x, by simpa [PyData.canLay0] using hx, by simp [PyData.depth]⟩
      · cases h
    | ty n => simp [toPy] at h
    | tup s q =>
      simp only [toPy] at h
      split at h
      · rename_i ps hp
        cases h
        obtain ⟨a1, a2, a3⟩ := all _ _ _ hp q
        exact ⟨.tup s a1, by simpa [PyData.canLay0] using a2, by simp only [PyData.depth]; omega⟩
      · cases h
    | ref a =>
      have go : ∀ ds, (M a = some (.lst ds) ∨ M a = some (.rol ds)) → (match toPys (toPy M n) ds with | some ps => some (PyData.list ps) | none => none) = some p → Dp K H (.ref a) p ∧ p.canLay0 = true ∧ p.depth ≤ n + 1 := by
        intro ds hm h
        obtain ⟨vs, s, q⟩ := m.sq hm
        split at h
        · rename_i ps hp
          cases h
          obtain ⟨a1, a2, a3⟩ := all _ _ _ hp q
          exact ⟨.lst s a1, by simpa [PyData.canLay0] using a2, by simp only [PyData.depth]; omega⟩
        · cases h
      simp only [toPy] at h
      split at h
      · rename_i ds e; exact go ds (.inl e) h
      · rename_i ds e; exact go ds (.inr e) h
      · cases h
theorem Rep.flatV (h : Rep K H d v) (f : d.flat = true) : v = d.toV ∧ flatV v = true := by
  cases h <;> first | (simp [D.flat] at f; done) | exact ⟨rfl, rfl⟩
theorem Reps.flatV : ∀ {ds : List D} {vs : List V}, Reps K H ds vs → ds.all D.flat = true → vs = ds.map D.toV ∧ vs.all L2.flatV = true
  | _, _, .nil, _ => ⟨rfl, rfl⟩
  | _, _, .cons h r, f => by
    simp only [List.all_cons, Bool.and_eq_true] at f
    obtain ⟨a, b⟩ := h.flatV f.1
    obtain ⟨c, e⟩ := Reps.flatV r f.2
    exact ⟨by rw [List.map_cons, ← a, ← c], by simp [b, e]⟩
end
section
variable {X : Cx}
theorem atI_len {α β : Type} {xs : List α} {ys : List β} {i : Int} {x : α} (h : atI xs i = some x) (hl : xs.length = ys.length) (g : ∀ (j : Nat), xs[j]? = some x → ∃ y : β, ys[j]? = some y) : ∃ (y : β) (j : Nat), atI ys i = some y ∧ xs[j]? = some x ∧ ys[j]? = some y := by
  unfold atI at h ⊢
  rw [← hl]
  cases e : ixN xs.length i with
  | none => rw [e] at h; cases h
  | some j =>
    rw [e] at h
    obtain ⟨y, hy⟩ := g j h
    exact ⟨y, j, hy, h, hy⟩
theorem Reps.at_ {K : PySem.W.Frag} {H : Hp} {ds : List D} {vs : List V} {i : Int} {d : D} (r : Reps K H ds vs) (h : atI ds i = some d) : ∃ v, atI vs i = some v ∧ Rep K H d v := by
  obtain ⟨v, j, a, b, c⟩ := atI_len h r.length fun j hj => let ⟨v, q, _⟩ := r.get hj; ⟨v, q⟩
  obtain ⟨w, q1, q2⟩ := r.get b
  rw [c] at q1; cases q1
  exact ⟨v, a, q2⟩
def isBV : V → Bool → Bool
  | .bl a, b => decide (a = b)
  | _, _ => false
theorem isB_ok {K : PySem.W.Frag} {H : Hp} {d : D} {v : V} {b : Bool} (r : Rep K H d v) : isB d b = isBV v b := by
  cases r <;> rfl
theorem is_offB {M : Model} {A : Around} {E : Value → Shared → Prop} {s : Shared} {x : V} {u : Value} {b : Bool} {R : Bool → Shared → Prop} (r : RelV x u) (h : ∀ a, x ≠ .bl a) (q : R false s) : wpAny M A (isSame u (.bool b)) R E s := by
  have eq_ : ∀ {u : Value}, plainIs u (.bool b) = true → (u == Value.bool b) = false → wpAny M A (isSame u (.bool b)) R E s := fun h1 h2 => wpAny_isSame_plain h1 (by rw [h2]; exact q)
  cases x with
  | ref a => cases r; exact eq_ rfl rfl
  | non => cases r; exact eq_ rfl rfl
  | bl a => exact absurd rfl (h a)
  | int i => obtain ⟨t, rfl⟩ := r; exact eq_ rfl rfl
  | str x => obtain ⟨t, rfl⟩ := r; exact eq_ rfl rfl
  | byt x => obtain ⟨t, rfl⟩ := r; exact eq_ rfl rfl
  | flt x => obtain ⟨t, rfl⟩ := r; exact eq_ rfl rfl
  | ty n => cases r; exact eq_ rfl rfl
theorem op_isAB : OpR X (compareOp .Is) (fun x y H Q => ∃ b : Bool, y = .bl b ∧ Q (.bl (isBV x b)) H) := by
  intro pins s σ H x y v u Q I rx ry h
  obtain ⟨b, rfl, q⟩ := h
  by_cases hx : ∃ a, x = V.bl a
  · obtain ⟨a, rfl⟩ := hx
    exact op_isBl pins s σ H _ _ v u Q I rx ry ⟨_, _, rfl, rfl, q⟩
  · cases (show u = Value.bool b from ry)
    have hf : isBV x b = false := by cases x <;> first | rfl | exact absurd ⟨_, rfl⟩ hx
    rw [hf] at q
    show wpAny _ _ ((isSame v (Value.bool b)) >>= fun z => pure (Value.bool z)) _ _ s
    exact wpAny_bind (is_offB rx (fun a e => hx ⟨a, e⟩) (wpAny_pure ⟨.bl false, H, I, rfl, q⟩))
theorem op_notAB : OpR X (compareOp .IsNot) (fun x y H Q => ∃ b : Bool, y = .bl b ∧ Q (.bl (!isBV x b)) H) := by
  intro pins s σ H x y v u Q I rx ry h
  obtain ⟨b, rfl, q⟩ := h
  by_cases hx : ∃ a, x = V.bl a
  · obtain ⟨a, rfl⟩ := hx
    exact op_notBl pins s σ H _ _ v u Q I rx ry ⟨_, _, rfl, rfl, q⟩
  · cases (show u = Value.bool b from ry)
    have hf : isBV x b = false := by cases x <;> first | rfl | exact absurd ⟨_, rfl⟩ hx
    rw [hf] at q
    show wpAny _ _ ((isSame v (Value.bool b)) >>= fun z => pure (Value.bool (!z))) _ _ s
    exact wpAny_bind (is_offB rx (fun a e => hx ⟨a, e⟩) (wpAny_pure ⟨.bl true, H, I, rfl, q⟩))
theorem cmp_ok (hu : X.A.units + 64 < cLine) (o : CmpOp) : OpR X (compareOp o) (liftR X.K fun x y M Q => ∃ b, cmpD M o x y = some b ∧ Q (.bl b) M) := by
  intro pins s σ H x y v u Q I rx ry h
  obtain ⟨d, e, M, Qd, m, r1, r2, ⟨b, hb, q⟩, k⟩ := h
  have fin : Q (.bl b) H := k _ _ _ _ (TX.refl H) m (.bl b) q
  cases o with
  | Lt =>
    cases d <;> cases e <;> simp only [cmpD] at hb <;> first | (cases hb; done) | skip
    cases hb; cases r1; cases r2
    exact op_lt pins s σ H _ _ v u Q I rx ry ⟨_, _, rfl, rfl, fin⟩
  | LtE =>
    cases d <;> cases e <;> simp only [cmpD] at hb <;> first | (cases hb; done) | skip
    cases hb; cases r1; cases r2
    exact op_le pins s σ H _ _ v u Q I rx ry ⟨_, _, rfl, rfl, fin⟩
  | Gt =>
    cases d <;> cases e <;> simp only [cmpD] at hb <;> first | (cases hb; done) | skip
    cases hb; cases r1; cases r2
    exact op_gt pins s σ H _ _ v u Q I rx ry ⟨_, _, rfl, rfl, fin⟩
  | GtE =>
    cases d <;> cases e <;> simp only [cmpD] at hb <;> first | (cases hb; done) | skip
    cases hb; cases r1; cases r2
    exact op_ge pins s σ H _ _ v u Q I rx ry ⟨_, _, rfl, rfl, fin⟩
  | Eq =>
    simp only [cmpD] at hb
    split at hb
    · rename_i p q' h1 h2
      cases hb
      obtain ⟨a1, a2, a3⟩ := toPy_dp m _ _ _ _ h1 r1
      obtain ⟨b1, b2, b3⟩ := toPy_dp m _ _ _ _ h2 r2
      exact op_eqD hu pins s σ H _ _ v u Q I rx ry ⟨p, q', a1, b1, by simp only [SeqAt.shaped, a2, Bool.true_and, decide_eq_true_eq]; omega, by simp only [SeqAt.shaped, b2, Bool.true_and, decide_eq_true_eq]; omega, fin⟩
    · cases hb
  | NotEq =>
    simp only [cmpD] at hb
    split at hb
    · rename_i p q' h1 h2
      cases hb
      obtain ⟨a1, a2, a3⟩ := toPy_dp m _ _ _ _ h1 r1
      obtain ⟨b1, b2, b3⟩ := toPy_dp m _ _ _ _ h2 r2
      exact op_neD hu pins s σ H _ _ v u Q I rx ry ⟨p, q', a1, b1, by simp only [SeqAt.shaped, a2, Bool.true_and, decide_eq_true_eq]; omega, by simp only [SeqAt.shaped, b2, Bool.true_and, decide_eq_true_eq]; omega, fin⟩
    · cases hb
  | Is =>
    cases e <;> first
      | (simp only [cmpD] at hb; cases hb; cases r2
         exact op_isN pins s σ H _ _ v u Q I rx ry ⟨rfl, by rw [r1.isNon]; exact fin⟩)
      | (simp only [cmpD] at hb; cases hb; cases r2
         exact op_isAB pins s σ H _ _ v u Q I rx ry ⟨_, rfl, by rw [← isB_ok r1]; exact fin⟩)
      | (cases d <;> simp only [cmpD] at hb <;> cases hb)
  | IsNot =>
    cases e <;> first
      | (simp only [cmpD] at hb; cases hb; cases r2
         exact op_notN pins s σ H _ _ v u Q I rx ry ⟨rfl, by rw [r1.isNon]; exact fin⟩)
      | (simp only [cmpD] at hb; cases hb; cases r2
         exact op_notAB pins s σ H _ _ v u Q I rx ry ⟨_, rfl, by rw [← isB_ok r1]; exact fin⟩)
      | (cases d <;> simp only [cmpD] at hb <;> cases hb)
  | In =>
    simp only [cmpD] at hb
    split at hb
    · rename_i ds hs
      split at hb
      · rename_i hf
        cases hb
        simp only [Bool.and_eq_true] at hf
        obtain ⟨a, vs, rfl, sq, rs⟩ := seqD_sq hs r2 m
        obtain ⟨e1, f1⟩ := r1.flatV hf.1
        obtain ⟨e2, f2⟩ := rs.flatV hf.2
        refine op_in_seq pins s σ H _ _ v u Q I rx ry ⟨a, vs, rfl, sq, f1, f2, ?_⟩
        rw [e1, e2]; exact fin
      · cases hb
    · cases hb
  | NotIn =>
    simp only [cmpD] at hb
    split at hb
    · rename_i ds hs
      split at hb
      · rename_i hf
        cases hb
        simp only [Bool.and_eq_true] at hf
        obtain ⟨a, vs, rfl, sq, rs⟩ := seqD_sq hs r2 m
        obtain ⟨e1, f1⟩ := r1.flatV hf.1
        obtain ⟨e2, f2⟩ := rs.flatV hf.2
        refine op_notIn_seq pins s σ H _ _ v u Q I rx ry ⟨a, vs, rfl, sq, f1, f2, ?_⟩
        rw [e1, e2]; exact fin
      · cases hb
    · cases hb
end
end DL
namespace DL
open PySem PySem.Spec L2
section
variable {X : Cx}
theorem reps_ne {K : PySem.W.Frag} {H : Hp} {ds : List D} {vs : List V} (r : Reps K H ds vs) : vs = [] ↔ ds = [] := by
  cases r <;> simp
theorem Reps.rep {K : PySem.W.Frag} {H : Hp} {ds : List D} {vs : List V} (r : Reps K H ds vs) : ∀ n, Reps K H (List.replicate n ds).flatten (List.replicate n vs).flatten
  | 0 => .nil
  | n + 1 => by
    rw [List.replicate_succ, List.replicate_succ, List.flatten_cons, List.flatten_cons]
    exact r.append (Reps.rep r n)
theorem MulB.fits {i j : Int} (h : MulB i j) : PySem.IntMulOk i j := by
  have bt : ∀ x : Int, Builtin.Int.intBits x ≤ x.natAbs.log2 + 1 := fun x => by unfold Builtin.Int.intBits; split <;> omega
  have b1 := bt i; have b2 := bt j
  have hs : i.natAbs.log2 + j.natAbs.log2 < 100000000 := h
  have el : bitsLine = 134217728 := by decide
  unfold PySem.IntMulOk; intro z
  rw [Bool.and_eq_true] at z
  have z2 := z.2; unfold Builtin.Int.intTooBig at z2
  have z3 := of_decide_eq_true z2; rw [el] at z3; omega
theorem op_mulB {X : Cx} : OpR X (binaryOp .Mult) (rI MulB fun i j => .int (i * j)) := opI fun _ _ _ _ _ _ _ hc q => PyProof.Rows.mul_int q hc.fits
theorem op_fdivB {X : Cx} : OpR X (binaryOp .FloorDiv) (rI (fun _ j => DivB j) fun i j => .int (i.fdiv j)) := opI fun _ _ _ _ _ _ _ hc q => PyProof.Rows.floordiv_int hc.1 q (.inl (PyProof.noPylong_of_log2 hc.2))
theorem op_ok (o : Operator) : OpR X (binaryOp o) (liftR X.K (opD o)) := by
  intro pins s σ H x y v u Q I rx ry h
  obtain ⟨d, e, M, Qd, m, r1, r2, q, k⟩ := h
  have at_ : ∀ {d : D} {v : V}, Rep X.K H d v → Qd d M → Q v H := fun r q => k _ _ _ _ (TX.refl H) m r q
  cases o with
  | Add =>
    cases d <;> cases e <;> try (exact q.elim)
    · cases r1; cases r2
      exact op_add pins s σ H _ _ v u Q I rx ry ⟨_, _, rfl, rfl, at_ (.int _) q⟩
    · cases r1; cases r2
      obtain ⟨z, q⟩ := q
      exact op_add_str pins s σ H _ _ v u Q I rx ry ⟨_, _, rfl, rfl, z, at_ (.str _) q⟩
    · rename_i xs ys
      obtain ⟨z, q⟩ := q
      obtain ⟨a, vs, rfl, s1, q1⟩ := r1.tup_inv
      obtain ⟨b, ws, rfl, s2, q2⟩ := r2.tup_inv
      refine op_catA pins s σ H _ _ v u Q I rx ry ⟨a, b, vs, ws, rfl, rfl, s1, s2, by rw [← q1.length, ← q2.length]; exact z, fun e => ?_, fun e1 e2 => ?_, fun e1 e2 p hp => ?_⟩
      · rw [(reps_ne q1).mp e, List.nil_append] at q
        exact at_ r2 q
      · rw [(reps_ne q2).mp e2, List.append_nil] at q
        exact at_ r1 q
      · exact k _ _ _ _ (TX.new hp) (m.new hp) (.tup (SqT.of upd_same) ((q1.append q2).mono (TX.new hp))) q
    · obtain ⟨xs, ys, h1, h2, z, q⟩ := q
      cases r1; cases r2
      obtain ⟨vs, e1, q1⟩ := m _ _ h1
      obtain ⟨ws, e2, q2⟩ := m _ _ h2
      exact op_cat pins s σ H _ _ v u Q I rx ry ⟨_, _, vs, ws, rfl, rfl, e1, e2, by rw [← q1.length, ← q2.length]; exact z, fun p hp => k _ _ _ _ (TX.new hp) (m.newL hp (q1.append q2)) (.ref p) (q p (m.free hp))⟩
  | Sub =>
    cases d <;> cases e <;> try (exact q.elim)
    cases r1; cases r2
    exact op_sub pins s σ H _ _ v u Q I rx ry ⟨_, _, rfl, rfl, at_ (.int _) q⟩
  | Mult =>
    cases d <;> cases e <;> try (exact q.elim)
    · cases r1; cases r2
      exact op_mulB pins s σ H _ _ v u Q I rx ry ⟨_, _, rfl, rfl, q.1, at_ (.int _) q.2⟩
    · obtain ⟨xs, h1, k0, k1, z, q⟩ := q
      cases r1; cases r2
      obtain ⟨vs, e1, q1⟩ := m _ _ h1
      exact op_rep pins s σ H _ _ v u Q I rx ry ⟨_, _, vs, rfl, rfl, e1, by omega, by omega, by rw [← q1.length]; exact z, fun p hp => k _ _ _ _ (TX.new hp) (m.newL hp (q1.rep _)) (.ref p) (q p (m.free hp))⟩
  | FloorDiv =>
    cases d <;> cases e <;> try (exact q.elim)
    cases r1; cases r2
    exact op_fdivB pins s σ H _ _ v u Q I rx ry ⟨_, _, rfl, rfl, q.1, at_ (.int _) q.2⟩
  | Mod =>
    cases d <;> cases e <;> try (exact q.elim)
    cases r1; cases r2
    exact op_mod pins s σ H _ _ v u Q I rx ry ⟨_, _, rfl, rfl, q.1, at_ (.int _) q.2⟩
  | Pow =>
    cases d <;> cases e <;> try (exact q.elim)
    cases r1; cases r2
    exact op_pow pins s σ H _ _ v u Q I rx ry ⟨_, _, rfl, rfl, q.1, at_ (.int _) q.2⟩
  | _ => cases d <;> cases e <;> exact q.elim
theorem ix_ok : IxR X (liftR X.K ixD) := by
  intro value slice pins s σ H x y v u Q I rx ry h hs
  obtain ⟨d, e, M, Qd, m, r1, r2, q, k⟩ := h
  have at_ : ∀ {d : D} {v : V}, Rep X.K H d v → Qd d M → Q v H := fun r q => k _ _ _ _ (TX.refl H) m r q
  cases d <;> cases e <;> try (exact q.elim)
  · cases r1; cases r2
    obtain ⟨z, c, h, q⟩ := q
    exact ix_str value slice pins s σ H _ _ v u Q I rx ry ⟨_, _, c, rfl, rfl, z, h, at_ (.str _) q⟩ hs
  · cases r2
    obtain ⟨d, h, q⟩ := q
    obtain ⟨a, vs, rfl, s1, q1⟩ := r1.tup_inv
    obtain ⟨w, h2, r⟩ := q1.at_ h
    exact ix_tup value slice pins s σ H _ _ v u Q I rx ry ⟨a, vs, _, w, rfl, rfl, s1, h2, at_ r q⟩ hs
  · cases r1; cases r2
    obtain ⟨ds, hm, d, h, q⟩ := q
    obtain ⟨vs, s1, q1⟩ := m.sq hm
    obtain ⟨w, h2, r⟩ := q1.at_ h
    exact ix_list value slice pins s σ H _ _ v u Q I rx ry ⟨_, vs, _, w, rfl, rfl, s1, h2, at_ r q⟩ hs
theorem Reps.cut {K : PySem.W.Frag} {H : Hp} {ds : List D} {vs : List V} (r : Reps K H ds vs) (lo hi : Option Int) : Reps K H (cutD ds lo hi) (cutV vs lo hi) := by
  unfold cutD cutV
  rw [r.length]
  exact (r.drop _).take _
def liftS (K : PySem.W.Frag) : V → Option Int → Option Int → Hp → VK → Prop := fun v lo hi H Q => ∃ d M Qd, RelM K M H ∧ Rep K H d v ∧ slcD d lo hi M Qd ∧
  ∀ d' M' v' H', TX H H' → RelM K M' H' → Rep K H' d' v' → Qd d' M' → Q v' H'
theorem slc_ok : SlR X (liftS X.K) := by
  intro pins s σ H x v vl vu lo hi sl Q I rx hs pl pu h
  obtain ⟨d, M, Qd, m, r1, q, k⟩ := h
  cases d <;> try (exact q.elim)
  · rename_i ds
    obtain ⟨a, vs, rfl, s1, q1⟩ := r1.tup_inv
    refine sl_tupA pins s σ H _ v vl vu lo hi sl Q I rx hs pl pu ⟨a, vs, rfl, s1, fun e => ?_, fun _ p hp => ?_⟩
    · have c : cutD ds lo hi = ds := by
        unfold cutD
        rw [q1.length, e.1, e.2, List.drop_zero, Nat.sub_zero, ← q1.length, List.take_length]
      have q : Qd (.tup (cutD ds lo hi)) M := q
      rw [c] at q
      exact k _ _ _ _ (TX.refl H) m r1 q
    · exact k _ _ _ _ (TX.new hp) (m.new hp) (.tup (SqT.of upd_same) ((q1.cut lo hi).mono (TX.new hp))) q
  · obtain ⟨ds, hm, q⟩ := q
    cases r1
    obtain ⟨vs, s1, q1⟩ := m.sq hm
    exact sl_list pins s σ H _ v vl vu lo hi sl Q I rx hs pl pu ⟨_, vs, rfl, s1, fun p hp => k _ _ _ _ (TX.new hp) (m.newL hp (q1.cut lo hi)) (.ref p) (q p (m.free hp))⟩
theorem truD_ok {K : PySem.W.Frag} {M : Mm} {H : Hp} {d : D} {v : V} {b : Bool} (m : RelM K M H) (r : Rep K H d v) (h : truD M d = some b) : TruV K v H b := by
  have emp : ∀ {ds : List D} {vs : List V}, Reps K H ds vs → (!vs.isEmpty) = !ds.isEmpty := fun r => by cases r <;> rfl
  cases r with
  | non => simp only [truD, Option.some.injEq] at h; exact h.symm
  | bl c => simp only [truD, Option.some.injEq] at h; exact h.symm
  | int i => simp only [truD, Option.some.injEq] at h; exact h.symm
  | str x => simp [truD] at h
  | ty n => simp [truD] at h
  | tup s q => simp only [truD, Option.some.injEq] at h; exact .inr (.inl ⟨_, s, by rw [emp q]; exact h.symm⟩)
  | ref a =>
    simp only [truD] at h
    split at h
    · rename_i ds e; cases h; obtain ⟨vs, a1, a2⟩ := m.sq (.inl e); exact .inl ⟨vs, a1, (emp a2).symm⟩
    · rename_i ds e; cases h; obtain ⟨vs, a1, a2⟩ := m.sq (.inr e); exact .inl ⟨vs, a1, (emp a2).symm⟩
    · cases h
end
inductive Bi where
  | len | abs | int | gcd | lcm | isi | list | tuple | max | min | sum | any | all | str | divmod | srt
  deriving DecidableEq
def Bi.name : Bi → Str
  | .len => "len" | .abs => "abs" | .int => "int" | .gcd => "gcd" | .lcm => "lcm" | .isi => "isinstance" | .list => "list" | .tuple => "tuple" | .max => "max" | .min => "min" | .sum => "sum" | .any => "any" | .all => "all" | .str => "str" | .divmod => "divmod" | .srt => "sorted"
inductive Ty where
  | int | bool | str | none | tuple | list
  deriving DecidableEq
def Ty.nm : Ty → String
  | .int => "int" | .bool => "bool" | .str => "str" | .none => "NoneType" | .tuple => "tuple" | .list => "list"
def Ty.of (M : Mm) : D → Option Ty
  | .non => some .none
  | .bl _ => some .bool
  | .int _ => some .int
  | .str _ => some .str
  | .tup _ => some .tuple
  | .ref a => match M a with
    | some (.lst _) => some .list
    | some (.rol _) => some .list
    | _ => Option.none
  | .ty _ => Option.none
def Ty.sub (a b : Ty) : Bool := decide (a = b) || (decide (a = .bool) && decide (b = .int))
theorem kit_sub : ∀ a b : Ty, kitB a.nm b.nm = some (a.sub b) := by
  intro a b
  cases a <;> cases b <;> decide +kernel
def intsD : List D → Option (List Int)
  | [] => some []
  | .int i :: r => (intsD r).map (i :: ·)
  | _ => none
def blsD : List D → Option (List Bool)
  | [] => some []
  | .bl i :: r => (blsD r).map (i :: ·)
  | _ => none
def isiD (M : Mm) (x : D) : D → Option Bool
  | .ty n => match Ty.of M x with
    | some t => if n = "int" then some (t.sub .int) else if n = "bool" then some (t.sub .bool) else if n = "tuple" then some (t.sub .tuple) else if n = "list" then some (t.sub .list) else if n = "str" then some (t.sub .str) else none
    | none => none
  | .tup [.ty "list", .ty "tuple"] => match Ty.of M x with
    | some t => some (t.sub .list || t.sub .tuple)
    | none => none
  | _ => none
def Lsz (a b c : Int) : Prop := a.natAbs.log2 < 1000 ∧ b.natAbs.log2 < 1000 ∧ c.natAbs.log2 < 1000
def biD (b : Bi) (ds : List D) (M : Mm) (Q : QD) : Prop := match b, ds with
  | .len, [d] => match d with
    | .str z => z.length ≤ sizeLine ∧ Q (.int z.length) M
    | d => ∃ xs, seqD M d = some xs ∧ Q (.int xs.length) M
  | .abs, [.int i] => Q (.int (if i < 0 then -i else i)) M
  | .int, [.int i] => Q (.int i) M
  | .gcd, [.int a, .int b] => Q (.int ((Nat.gcd a.natAbs b.natAbs : Nat) : Int)) M
  | .gcd, [.int a, .int b, .int c] => Q (.int ((Nat.gcd (Nat.gcd a.natAbs b.natAbs) c.natAbs : Nat) : Int)) M
  | .lcm, [.int a, .int b, .int c] => Lsz a b c ∧ Q (.int ((Nat.lcm (Nat.lcm a.natAbs b.natAbs) c.natAbs : Nat) : Int)) M
  | .isi, [x, t] => ∃ c, isiD M x t = some c ∧ Q (.bl c) M
  | .list, [d] => ∃ xs, seqD M d = some xs ∧ ∀ p, M p = none → Q (.ref p) (M.put p (.lst xs))
  | .tuple, [d] => ∃ xs, seqD M d = some xs ∧ Q (.tup xs) M
  | .max, [.int i, .int j] => Q (.int (if j > i then j else i)) M
  | .min, [.int i, .int j] => Q (.int (if j < i then j else i)) M
  | .sum, [d] => ∃ xs ns, seqD M d = some xs ∧ d matches .ref _ ∧ intsD xs = some ns ∧ Q (.int ns.sum) M
  | .any, [d] => ∃ xs bs, seqD M d = some xs ∧ d matches .ref _ ∧ blsD xs = some bs ∧ Q (.bl (bs.any id)) M
  | .all, [d] => ∃ xs bs, seqD M d = some xs ∧ d matches .ref _ ∧ blsD xs = some bs ∧ Q (.bl (bs.all id)) M
  | .str, [d] => match d with
    | .int i => i.natAbs.log2 < 1920 ∧ Q (.str (toString i)) M
    | .str z => Q (.str z) M
    | _ => False
  | .divmod, [.int i, .int j] => CDivP i j ∧ Q (.tup [.int (i / j), .int (i % j)]) M
  | .srt, [.ref a] => ∃ ns : List Int, (M a = some (.lst (ns.map D.int)) ∨ M a = some (.rol (ns.map D.int))) ∧ ∀ ms : List Int, ms.Perm ns → ms.Pairwise (· ≤ ·) → ∀ p, M p = none → Q (.ref p) (M.put p (.lst (ms.map D.int)))
  | _, _ => False
theorem intsD_eq {K : PySem.W.Frag} {H : Hp} : ∀ {ds : List D} {ns : List Int} {vs : List V}, intsD ds = some ns → Reps K H ds vs → vs = ns.map V.int
  | [], ns, vs, h, r => by cases r; simp only [intsD, Option.some.injEq] at h; subst h; rfl
  | d :: ds, ns, vs, h, r => by
    cases d <;> simp only [intsD] at h <;> try (cases h; done)
    rename_i i
    cases q : intsD ds with
    | none => rw [q] at h; cases h
    | some ms =>
      rw [q] at h; cases h
      cases r with
      | cons a b => cases a; rw [intsD_eq q b]; rfl
theorem blsD_eq {K : PySem.W.Frag} {H : Hp} : ∀ {ds : List D} {ns : List Bool} {vs : List V}, blsD ds = some ns → Reps K H ds vs → vs = ns.map V.bl
  | [], ns, vs, h, r => by cases r; simp only [blsD, Option.some.injEq] at h; subst h; rfl
  | d :: ds, ns, vs, h, r => by
    cases d <;> simp only [blsD] at h <;> try (cases h; done)
    rename_i i
    cases q : blsD ds with
    | none => rw [q] at h; cases h
    | some ms =>
      rw [q] at h; cases h
      cases r with
      | cons a b => cases a; rw [blsD_eq q b]; rfl
section
variable {X : Cx}
theorem tyX_of {K : PySem.W.Frag} {M : Mm} {H : Hp} {d : D} {v : V} {t : Ty} (m : RelM K M H) (r : Rep K H d v) (h : Ty.of M d = some t) : TyX K H v (.type t.nm) := by
  cases r with
  | non => cases h; exact .base .non
  | bl b => cases h; exact .base (.bl b)
  | int i => cases h; exact .base (.int i)
  | str x => cases h; exact .base (.str x)
  | ty n => cases h
  | tup s q =>
    cases h
    rcases s with (s | ⟨o, s⟩) | ⟨o, its, n, e, c, _⟩
    · exact .base (.tup s)
    · exact .fTuple s
    · exact .kTuple e c
  | ref a =>
    simp only [Ty.of] at h
    split at h
    · rename_i e; cases h; obtain ⟨vs, a1, _⟩ := m _ _ e; exact .base (.lst a1)
    · rename_i e; cases h; obtain ⟨vs, o, a1, _⟩ := m _ _ e; exact .base (.frz a1)
    · cases h
end
end DL
set_option exponentiation.threshold 4000
namespace PySem.W
open PySem PySem.Calls
theorem args_gcd3 (a b c : Value) : argsOk "math.gcd" ⟨[a, b, c], []⟩ := by unfold argsOk; kernel_rfl
theorem args_lcm3 (a b c : Value) : argsOk "math.lcm" ⟨[a, b, c], []⟩ := by unfold argsOk; kernel_rfl
theorem run_gcd3 (a : Int) (t : Tok) (b : Int) (u : Tok) (c : Int) (v : Tok) :
    Gives (Builtin.«math.gcd» ⟨[.int a t, .int b u, .int c v], []⟩) (.int (((((Nat.gcd 0 a.natAbs).gcd b.natAbs).gcd c.natAbs : Nat) : Int))) :=
  .of_wp fun M A E s Q h => by obtain ⟨hp, g, d, tk, os⟩ := s; wp_walk; exact ⟨_, rfl, h⟩
theorem run_lcm3 (a : Int) (t : Tok) (b : Int) (u : Tok) (c : Int) (v : Tok) (hc0 : ¬(max 1 a.natAbs).log2 / 30 + 1 > 450) (hc1 : ¬(max (Nat.lcm 1 a.natAbs) b.natAbs).log2 / 30 + 1 > 450) (hc2 : ¬(max ((Nat.lcm 1 a.natAbs).lcm b.natAbs) c.natAbs).log2 / 30 + 1 > 450) (hsz : (((((Nat.lcm 1 a.natAbs).lcm b.natAbs).lcm c.natAbs : Nat) : Int)).natAbs.log2 < bitsLine) :
    Gives (Builtin.«math.lcm» ⟨[.int a t, .int b u, .int c v], []⟩) (.int (((((Nat.lcm 1 a.natAbs).lcm b.natAbs).lcm c.natAbs : Nat) : Int))) :=
  .of_wp fun M A E s Q h => by
    obtain ⟨hp, g, d, tk, os⟩ := s
    wp_walk
    (try (refine wpAny_ite_false (decide_eq_false hc1) ?_; wp_walk))
    (try (refine wpAny_ite_false (decide_eq_false hc2) ?_; wp_walk))
    (try (refine wpAny_ite_false (decide_eq_false (Nat.not_le.mpr hsz)) ?_; wp_walk))
    exact ⟨_, rfl, h⟩
section
variable {prog : Program} {w : World} {A : Around} {E : Value → Shared → Prop} {s : Shared} {Q : Value → Shared → Prop} {a b c : Int} {t u v : Tok}
theorem mg_gcd3 (h : Q (.int ((Nat.gcd (Nat.gcd a.natAbs b.natAbs) c.natAbs : Nat) : Int) s.toks) { s with toks := s.toks + 1 }) : wpAny (model prog w) A (call (.builtin "math.gcd") [.int a t, .int b u, .int c v]) Q E s := by
  have g := run_gcd3 a t b u c v
  rw [Nat.gcd_zero_left] at g
  exact call_function_meets MGF.kind_gcd MGF.plain_gcd MGF.entry_gcd (args_gcd3 _ _ _) g.meets h
theorem mg_lcm3 (m1 : (max 1 a.natAbs).log2 ≤ 1000) (m2 : (max a.natAbs b.natAbs).log2 ≤ 1000) (m3 : (max (a.natAbs.lcm b.natAbs) c.natAbs).log2 ≤ 2000) (m4 : (((a.natAbs.lcm b.natAbs).lcm c.natAbs : Nat) : Int).natAbs.log2 < bitsLine)
    (h : Q (.int ((Nat.lcm (Nat.lcm a.natAbs b.natAbs) c.natAbs : Nat) : Int) s.toks) { s with toks := s.toks + 1 }) : wpAny (model prog w) A (call (.builtin "math.lcm") [.int a t, .int b u, .int c v]) Q E s := by
  have g := run_lcm3 a t b u c v
  rw [Nat.lcm_one_left] at g
  exact call_function_meets MGF.kind_lcm MGF.plain_lcm MGF.entry_lcm (args_lcm3 _ _ _) (g (by omega) (by omega) (by omega) m4).meets h
end
end PySem.W
set_option exponentiation.threshold 5000
namespace DL
open PySem PySem.Spec L2
def Bi.val : Bi → Value
  | .len => .builtin "len" | .abs => .builtin "abs" | .int => .type "int" | .gcd => .builtin "math.gcd" | .lcm => .builtin "math.lcm" | .isi => .builtin "isinstance" | .list => .type "list" | .tuple => .type "tuple"
  | .max => .builtin "max" | .min => .builtin "min" | .sum => .builtin "sum" | .any => .builtin "any" | .all => .builtin "all" | .str => .type "str" | .divmod => .builtin "divmod" | .srt => .builtin "sorted"
section
variable {X : Cx}
theorem ref_of_matches {d : D} (h : (d matches .ref _) = true) : ∃ a, d = .ref a := by
  cases d <;> first | (cases h; done) | exact ⟨_, rfl⟩
theorem sqL_of {K : PySem.W.Frag} {M : Mm} {H : Hp} {a : Addr} {xs : List D} (m : RelM K M H) (h : seqD M (.ref a) = some xs) : ∃ vs, SqL K H a vs ∧ Reps K H xs vs := by
  simp only [seqD] at h
  split at h
  · rename_i e; cases h; exact m.sq (.inl e)
  · rename_i e; cases h; exact m.sq (.inr e)
  · cases h
theorem reps_ints {K : PySem.W.Frag} {H : Hp} : ∀ {ns : List Int} {vs : List V}, Reps K H (ns.map D.int) vs → vs = ns.map V.int
  | [], _, .nil => rfl
  | n :: ns, _, .cons r t => by cases r; rw [reps_ints t]; rfl
theorem ints_reps {K : PySem.W.Frag} {H : Hp} : ∀ (ns : List Int), Reps K H (ns.map D.int) (ns.map V.int)
  | [] => .nil
  | n :: ns => .cons (.int n) (ints_reps ns)
theorem lg2_lt {x k : Nat} (h : x.log2 < k) : x < 2 ^ k := by
  by_cases z : x = 0
  · subst z; exact Nat.two_pow_pos k
  · exact (Nat.log2_lt z).mp h
theorem ints3 {us : List Value} {a b c : Int} (h : Vals [.int a, .int b, .int c] us) : ∃ t u v, us = [.int a t, .int b u, .int c v] := by
  cases h with | cons h1 h => cases h with | cons h2 h => cases h with | cons h3 h =>
  cases h
  obtain ⟨t, rfl⟩ := h1
  obtain ⟨u, rfl⟩ := h2
  obtain ⟨v, rfl⟩ := h3
  exact ⟨t, u, v, rfl⟩
def rGcd3 : List V → Hp → VK → Prop := fun vs H Q => ∃ a b c : Int, vs = [.int a, .int b, .int c] ∧ Q (.int ((Nat.gcd (Nat.gcd a.natAbs b.natAbs) c.natAbs : Nat) : Int)) H
theorem cr_gcd3 : CallR X (.builtin "math.gcd") rGcd3 := by
  intro pins s σ H vs us Q I r h
  obtain ⟨a, b, c, rfl, q⟩ := h
  obtain ⟨t, u, v, rfl⟩ := ints3 r
  exact PySem.W.mg_gcd3 ⟨.int _, H, I.tok _, ⟨_, rfl⟩, q⟩
def rLcm3 : List V → Hp → VK → Prop := fun vs H Q => ∃ a b c : Int, vs = [.int a, .int b, .int c] ∧ Lsz a b c ∧ Q (.int ((Nat.lcm (Nat.lcm a.natAbs b.natAbs) c.natAbs : Nat) : Int)) H
theorem lcm_lt {m n x y : Nat} (hx : x < 2 ^ m) (hy : y < 2 ^ n) : Nat.lcm x y < 2 ^ (m + n) := by
  rw [Nat.pow_add]
  by_cases z : x * y = 0
  · have : Nat.lcm x y = 0 := by unfold Nat.lcm; rw [z]; simp
    rw [this]; exact Nat.mul_pos (Nat.two_pow_pos m) (Nat.two_pow_pos n)
  · have h1 : Nat.lcm x y ≤ x * y := Nat.div_le_self _ _
    have h2 : x * y < 2 ^ m * 2 ^ n := by
      have y0 : 0 < y := Nat.pos_of_ne_zero fun e => z (by rw [e, Nat.mul_zero])
      exact Nat.mul_lt_mul_of_lt_of_lt hx hy
    omega
theorem lg_lt {x k : Nat} (h : x < 2 ^ (k + 1)) : x.log2 ≤ k := PySem.W.mg_log h
theorem cr_lcm3 : CallR X (.builtin "math.lcm") rLcm3 := by
  intro pins s σ H vs us Q I r h
  obtain ⟨a, b, c, rfl, ⟨la, lb, lc⟩, q⟩ := h
  obtain ⟨t, u, v, rfl⟩ := ints3 r
  have a1 := lg2_lt la
  have b1 := lg2_lt lb
  have c1 := lg2_lt lc
  have ab := lcm_lt a1 b1
  have abc := lcm_lt ab c1
  have m1 : (max 1 a.natAbs).log2 ≤ 1000 := lg_lt (Nat.max_lt.mpr ⟨Nat.one_lt_two_pow (by decide), Nat.lt_of_lt_of_le a1 (Nat.pow_le_pow_right (by decide) (by decide))⟩)
  have m2 : (max a.natAbs b.natAbs).log2 ≤ 1000 := lg_lt (Nat.max_lt.mpr ⟨Nat.lt_of_lt_of_le a1 (Nat.pow_le_pow_right (by decide) (by decide)), Nat.lt_of_lt_of_le b1 (Nat.pow_le_pow_right (by decide) (by decide))⟩)
  have m3 : (max (a.natAbs.lcm b.natAbs) c.natAbs).log2 ≤ 2000 := lg_lt (Nat.max_lt.mpr ⟨Nat.lt_of_lt_of_le ab (Nat.pow_le_pow_right (by decide) (by decide)), Nat.lt_of_lt_of_le c1 (Nat.pow_le_pow_right (by decide) (by decide))⟩)
  have m4 : (((a.natAbs.lcm b.natAbs).lcm c.natAbs : Nat) : Int).natAbs.log2 < bitsLine := by
    rw [Int.natAbs_natCast]
    have h1 : ((a.natAbs.lcm b.natAbs).lcm c.natAbs).log2 ≤ 3000 := lg_lt (Nat.lt_of_lt_of_le abc (Nat.pow_le_pow_right (by decide) (by decide)))
    exact Nat.lt_of_le_of_lt h1 (by decide +kernel)
  exact PySem.W.mg_lcm3 m1 m2 m3 m4 ⟨.int _, H, I.tok _, ⟨_, rfl⟩, q⟩
theorem bi_ok (hc : X.calm = true) (b : Bi) : CallR X b.val (liftC X.K (biD b)) := by
  intro pins s σ H vs us Q I r h
  obtain ⟨ds, M, Qd, m, rs, q, k⟩ := h
  have at_ : ∀ {d : D} {v : V}, Rep X.K H d v → Qd d M → Q v H := fun r q => k _ _ _ _ (TX.refl H) m r q
  cases b with
  | len =>
    match ds, q with
    | [d], q =>
      obtain ⟨v, rfl, r1⟩ := rs.one
      have main : (∃ xs, seqD M d = some xs ∧ Qd (.int xs.length) M) → wpAny (model X.prog X.w) X.A (call (Bi.val .len) us) (EP X pins σ Q) X.xe s := by
        rintro ⟨xs, hs, q⟩
        obtain ⟨a, ws, rfl, sq, r2⟩ := seqD_sq hs r1 m
        exact call_len_seq pins s σ H _ us Q I r ⟨a, ws, rfl, sq, by rw [← r2.length]; exact at_ (.int _) q⟩
      cases d with
      | str z => cases r1; exact call_len_str pins s σ H _ us Q I r ⟨z, rfl, q.1, at_ (.int _) q.2⟩
      | _ => exact main q
  | abs =>
    match ds, q with
    | [.int i], q =>
      obtain ⟨v, rfl, r1⟩ := rs.one
      cases r1
      exact call_abs pins s σ H _ us Q I r ⟨i, rfl, at_ (.int _) q⟩
  | int =>
    match ds, q with
    | [.int i], q =>
      obtain ⟨v, rfl, r1⟩ := rs.one
      cases r1
      exact call_int1 pins s σ H _ us Q I r (.inl ⟨i, rfl, at_ (.int _) q⟩)
  | gcd =>
    match ds, q with
    | [.int i, .int j], q =>
      obtain ⟨v, w, rfl, r1, r2⟩ := rs.two
      cases r1; cases r2
      exact cr_gcd pins s σ H _ us Q I r ⟨i, j, rfl, at_ (.int _) q⟩
    | [.int i, .int j, .int k'], q =>
      cases rs with | cons r1 rs => cases rs with | cons r2 rs => cases rs with | cons r3 rs =>
      cases rs; cases r1; cases r2; cases r3
      exact cr_gcd3 pins s σ H _ us Q I r ⟨i, j, k', rfl, at_ (.int _) q⟩
  | lcm =>
    match ds, q with
    | [.int i, .int j, .int k'], q =>
      cases rs with | cons r1 rs => cases rs with | cons r2 rs => cases rs with | cons r3 rs =>
      cases rs; cases r1; cases r2; cases r3
      exact cr_lcm3 pins s σ H _ us Q I r ⟨i, j, k', rfl, q.1, at_ (.int _) q.2⟩
  | isi =>
    match ds, q with
    | [x, t], q =>
      obtain ⟨c, hc', q⟩ := q
      obtain ⟨v, w, rfl, r1, r2⟩ := rs.two
      have fin : Q (.bl c) H := at_ (.bl c) q
      unfold isiD at hc'
      split at hc'
      · rename_i n
        cases r2
        split at hc'
        · rename_i ty hty
          have tx := tyX_of m r1 hty
          have go : ∀ u : Ty, n = u.nm → c = ty.sub u → wpAny (model X.prog X.w) X.A (call (Bi.val .isi) us) (EP X pins σ Q) X.xe s := fun u e1 e2 => by
            subst e1 e2
            exact call_isi pins s σ H _ us Q I r ⟨v, .ty u.nm, _, _, _, rfl, .ty _, tx, kit_ty (kit_sub ty u), fin⟩
          repeat' split at hc'
          · rename_i e; exact go .int e (Option.some.inj hc').symm
          · rename_i e; exact go .bool e (Option.some.inj hc').symm
          · rename_i e; exact go .tuple e (Option.some.inj hc').symm
          · rename_i e; exact go .list e (Option.some.inj hc').symm
          · rename_i e; exact go .str e (Option.some.inj hc').symm
          · cases hc'
        · cases hc'
      · split at hc'
        · rename_i ty hty
          have tx := tyX_of m r1 hty
          have e := Option.some.inj hc'
          obtain ⟨p, ws, rfl, s1, q1⟩ := r2.tup_inv
          obtain ⟨a, b, rfl, qa, qb⟩ := q1.two
          cases qa; cases qb
          have kk : PySem.W.kitAny X.K (.type ty.nm) [.type "list", .type "tuple"] = some c := by
            subst e
            refine kitAny_cons (kit_ty (kit_sub ty .list)) (fun e1 => ?_) fun e1 => by rw [e1]; rfl
            rw [e1, Bool.false_or]
            exact kitAny_cons (kit_ty (kit_sub ty .tuple)) (fun e2 => by rw [e2]; exact kitAny_nil) fun e2 => e2
          obtain ⟨u1, u2, rfl, rr1, rr2⟩ := vals2 r
          cases (show u2 = Value.ref p from rr2)
          obtain ⟨P, Z, pp, hx⟩ := kit_of I rr1 tx
          obtain ⟨its, rv, ⟨o, h1, h2, n, h3⟩, _⟩ := I.tuple s1
          have e3 := ClsV.all (.cons (.ty "list") (.cons (.ty "tuple") .nil)) rv
          subst e3
          obtain ⟨oc, od, dt, sl⟩ := o
          simp only at h2 h3
          subst h2 h3
          exact PySem.W.kia_tup Z I.kIn pp h1 kk hx fun tk => ⟨.bl c, H, I.tok tk, rfl, fin⟩
        · cases hc'
      · cases hc'
  | list =>
    match ds, q with
    | [d], q =>
      obtain ⟨xs, hs, q⟩ := q
      obtain ⟨v, rfl, r1⟩ := rs.one
      obtain ⟨a, ws, rfl, sq, r2⟩ := seqD_sq hs r1 m
      exact call_list_of pins s σ H _ us Q I r ⟨a, ws, rfl, sq, fun p hp => k _ _ _ _ (TX.new hp) (m.newL hp r2) (.ref p) (q p (m.free hp))⟩
  | tuple =>
    match ds, q with
    | [d], q =>
      obtain ⟨xs, hs, q⟩ := q
      obtain ⟨v, rfl, r1⟩ := rs.one
      obtain ⟨a, ws, rfl, sq, r2⟩ := seqD_sq hs r1 m
      refine call_tuple_of pins s σ H _ us Q I r ⟨a, ws, rfl, ?_⟩
      rcases sq with sq | sq
      · exact .inl ⟨sq, fun p hp => k _ _ _ _ (TX.new hp) (m.new hp) (.tup (SqT.of upd_same) (r2.mono (TX.new hp))) q⟩
      · exact .inr ⟨sq, at_ (.tup sq r2) q⟩
  | max =>
    match ds, q with
    | [.int i, .int j], q =>
      obtain ⟨v, w, rfl, r1, r2⟩ := rs.two
      cases r1; cases r2
      exact call_max2 hc pins s σ H _ us Q I r ⟨i, j, rfl, at_ (.int _) q⟩
  | min =>
    match ds, q with
    | [.int i, .int j], q =>
      obtain ⟨v, w, rfl, r1, r2⟩ := rs.two
      cases r1; cases r2
      exact call_min2 hc pins s σ H _ us Q I r ⟨i, j, rfl, at_ (.int _) q⟩
  | sum =>
    match ds, q with
    | [d], q =>
      obtain ⟨xs, ns, hs, hm, hi, q⟩ := q
      obtain ⟨a, rfl⟩ := ref_of_matches hm
      obtain ⟨v, rfl, r1⟩ := rs.one
      cases r1
      obtain ⟨ws, sq, r2⟩ := sqL_of m hs
      have e := intsD_eq hi r2
      subst e
      exact cr_sum hc pins s σ H _ us Q I r ⟨a, ns, rfl, sq, at_ (.int _) q⟩
  | any =>
    match ds, q with
    | [d], q =>
      obtain ⟨xs, ns, hs, hm, hi, q⟩ := q
      obtain ⟨a, rfl⟩ := ref_of_matches hm
      obtain ⟨v, rfl, r1⟩ := rs.one
      cases r1
      obtain ⟨ws, sq, r2⟩ := sqL_of m hs
      have e := blsD_eq hi r2
      subst e
      exact cr_any hc pins s σ H _ us Q I r ⟨a, ns, rfl, sq, at_ (.bl _) q⟩
  | all =>
    match ds, q with
    | [d], q =>
      obtain ⟨xs, ns, hs, hm, hi, q⟩ := q
      obtain ⟨a, rfl⟩ := ref_of_matches hm
      obtain ⟨v, rfl, r1⟩ := rs.one
      cases r1
      obtain ⟨ws, sq, r2⟩ := sqL_of m hs
      have e := blsD_eq hi r2
      subst e
      exact cr_all hc pins s σ H _ us Q I r ⟨a, ns, rfl, sq, at_ (.bl _) q⟩
  | str =>
    match ds, q with
    | [d], q =>
      obtain ⟨v, rfl, r1⟩ := rs.one
      cases d <;> try (exact q.elim)
      · cases r1; exact call_str_int pins s σ H _ us Q I r ⟨_, rfl, q.1, at_ (.str _) q.2⟩
      · cases r1; exact SkE.call_str_str pins s σ H _ us Q I r ⟨_, rfl, at_ (.str _) q⟩
  | srt =>
    match ds, q with
    | [.ref a], q =>
      obtain ⟨ns, hm, q⟩ := q
      obtain ⟨v, rfl, r1⟩ := rs.one
      cases r1
      obtain ⟨vs, sq, r2⟩ := m.sq hm
      cases reps_ints r2
      exact cr_sortedI pins s σ H _ us Q I r ⟨a, ns, rfl, sq, fun ms p h1 h2 hp => k _ _ _ _ (TX.new hp) (m.newL hp (ints_reps ms)) (.ref p) (q ms h1 h2 p (m.free hp))⟩
  | divmod =>
    match ds, q with
    | [.int i, .int j], q =>
      obtain ⟨v, w, rfl, r1, r2⟩ := rs.two
      cases r1; cases r2
      exact call_divmodW pins s σ H _ us Q I r ⟨i, j, rfl, q.1, fun p hp => k _ _ _ _ (TX.new hp) (m.new hp) (.tup (.inl (.inl upd_same)) (.cons (.int _) (.cons (.int _) .nil))) q.2⟩
end
end DL
namespace DL
open PySem PySem.Spec L2
inductive Me where
  | append | pop
  deriving DecidableEq
inductive Sme where
  | join | zfill
  deriving DecidableEq
mutual
inductive Tg where
  | nm (i : Nat)
  | tup (ts : Tgs)
inductive Tgs where
  | nil
  | cons (t : Tg) (ts : Tgs)
end
mutual
inductive Ex where
  | var (i : Nat) | int (i : Int) | bl (b : Bool) | non | str (x : Str) | gl (g : Nat)
  | op (o : Operator) (a b : Ex) | neg (a : Ex)
  | cmp (o : CmpOp) (a b : Ex) | chn (o1 o2 : CmpOp) (a b c : Ex)
  | bop (o : BoolOp) (es : Exs) | not (a : Ex) | ite (c : Te) (a b : Ex)
  | tup (es : Exs) | lst (es : Exs)
  | ix (a b : Ex) | slc (a : Ex) (lo hi : Exo)
  | call (g : Nat) (es : Exs) | bi (b : Bi) (es : Exs) | mth (m : Me) (a : Ex) (es : Exs)
  | fld (a : Ex) (f : Str)
  | lc (own : List Nat) (tg : Tg) (it : Si) (c : Teo) (e : Ex)
  | xfl (a : Ex) (f : Str) | xis (a : Ex) (g : Nat)
  | tyn (t : Ty) | rev (a : Ex) | lrv (a : Ex) | fmt (a : Ex) | fst (es : Exs) | callk (g : Nat) (es : Exs) (ks : List Str) (zs : Exs) | smt (m : Sme) (a e : Ex)
  | mk (g : Nat) (es : Exs) | mkk (g : Nat) (es : Exs) (ks : List Str) (zs : Exs) | mc (g : Nat) (a : Ex) (m : Str) (es : Exs) | prp (g : Nat) (a : Ex) (f : Str) | lno (g : Nat) (a : Ex) | iso (a : Ex) (g : Nat) | oeq (g : Nat) (a b : Ex) | one (g : Nat) (a b : Ex)
inductive Te where
  | val (e : Ex) | oeq (g : Nat) (a b : Ex) | cmp (o : CmpOp) (a b : Ex) | chn (o1 o2 : CmpOp) (a b c : Ex)
  | bop (o : BoolOp) (ts : Tes) | not (t : Te)
inductive Tes where
  | nil
  | cons (t : Te) (ts : Tes)
inductive Teo where
  | none
  | some (t : Te)
inductive Exs where
  | nil
  | cons (e : Ex) (es : Exs)
inductive Exo where
  | none
  | some (e : Ex)
inductive Si where
  | seq (e : Ex) | rng1 (a : Ex) | rng2 (a b : Ex) | rng3 (a b c : Ex) | enm (a : Ex) | zip (a b : Ex) | rev (a : Ex)
end
def Exs.len : Exs → Nat
  | .nil => 0
  | .cons _ es => es.len + 1
inductive GV where
  | fn (n : Nat) (sp : DSp) (dfl : List D)
  | val (d : D)
  | err (C : Addr) (fs : List Str) (tx : List Nat)
  | cls (C : Addr)
  | cla (C : Addr) (i : Option (Nat × DSp × List D))
def GV.clsOf : GV → Option Addr
  | .err C _ _ => some C
  | .cls C => some C
  | _ => none
def GV.insOf : GV → Option Addr
  | .cla C _ => some C
  | _ => none
structure Gm where
  gv : Nat → GV
  fld : Addr → Str → Prop
  sub : Addr → Addr → Option Bool := fun _ _ => none
  xfl : Addr → Str → Prop := fun _ _ => False
  exn : Option (Addr × Addr × Option Addr) := none
  kwc : Nat → Nat → List Str → Option (List (Sum Nat D)) := fun _ _ _ => none
  mt : Nat → Str → Option (Nat × DSp × List D) := fun _ _ => none
  pr : Nat → Str → Option DSp := fun _ _ => none
  isi : Sum String Addr → Addr → Option Bool := fun _ _ => none
  nf : Sum String Addr → Addr → Bool := fun _ _ => false
def callD (g : GV) (k : Nat) (ds : List D) (M : Mm) (E : EK) (Q : QD) : Prop := match g with
  | .fn n sp dfl => k ≤ n ∧ n - k ≤ dfl.length ∧ ds.length = k ∧ sp (ds ++ dfl.drop (dfl.length - (n - k))) M E Q
  | _ => False
def isL (M : Mm) : D → Prop
  | .ref a => ∃ xs, M a = some (.lst xs) ∨ M a = some (.rol xs)
  | _ => False
def mthD (m : Me) (d : D) (ds : List D) (M : Mm) (Q : QD) : Prop := match m, d, ds with
  | .append, .ref a, [x] => ∃ xs, M a = some (.lst xs) ∧ xs.length < sizeLine ∧ Q .non (M.put a (.lst (xs ++ [x])))
  | .pop, .ref a, [] => ∃ xs x, M a = some (.lst (xs ++ [x])) ∧ Q x (M.put a (.lst xs))
  | _, _, _ => False
def wipeD (ρ : DEnv) : List Nat → DEnv
  | [] => ρ
  | v :: vs => (wipeD ρ vs).set v none
mutual
def tgD (tg : Tg) (d : D) (ρ : DEnv) (Q : DEnv → Prop) : Prop := match tg with
  | .nm i => Q (ρ.set i (some d))
  | .tup ts => match d with
    | .tup ds => tgsD ts ds ρ Q
    | _ => False
def tgsD (ts : Tgs) (ds : List D) (ρ : DEnv) (Q : DEnv → Prop) : Prop := match ts, ds with
  | .nil, [] => Q ρ
  | .cons t ts, d :: ds => tgD t d ρ fun ρ' => tgsD ts ds ρ' Q
  | _, _ => False
end
def compL (G : Mm → Prop) (p : Addr) (step : D → Mm → (Option D → Mm → Prop) → Prop) : List D → List D → Mm → (Mm → Prop) → Prop
  | [], acc, M, Q => G M ∧ M p = some (.lst acc) ∧ Q M
  | d :: ds, acc, M, Q => G M ∧ step d M fun r M' => match r with
    | none => compL G p step ds acc M' Q
    | some x => M' p = some (.lst acc) ∧ acc.length < sizeLine ∧ compL G p step ds (acc ++ [x]) (M'.put p (.lst (acc ++ [x]))) Q
def seqI (d : D) (M : Mm) (Q : List D → (Mm → Prop) → Mm → Prop) : Prop := match d with
  | .tup ds => Q ds (fun _ => True) M
  | .ref a => ∃ ds, (M a = some (.lst ds) ∨ M a = some (.rol ds)) ∧ Q ds (fun M => M a = some (.lst ds) ∨ M a = some (.rol ds)) M
  | _ => False
def sml (i : Int) : Prop := -(2 ^ 62) ≤ i ∧ i < 2 ^ 62
def enmD : Nat → List D → List D
  | _, [] => []
  | i, d :: ds => .tup [.int i, d] :: enmD (i + 1) ds
def zipD : List D → List D → List D
  | d :: ds, e :: es => .tup [d, e] :: zipD ds es
  | _, _ => []
def rngD (lo : Int) (n : Nat) : List D := (List.range n).map fun i => D.int (lo + (i : Nat))
def patD (pat : List (Sum Nat D)) (ds es : List D) : List D := pat.map fun
  | .inl i => (ds ++ es).getD i .non
  | .inr d => d
def kwD (Γ : Gm) (g np : Nat) (ks : List Str) (ds ws : List D) (M : Mm) (E : EK) (Q : QD) : Prop := match Γ.gv g, Γ.kwc g np ks with
  | .fn _ sp _, some pat => ds.length = np ∧ ws.length = ks.length ∧ sp (patD pat ds ws) M E Q
  | _, _ => False
def rngC (lo c : Int) (n : Nat) : List D := (List.range n).map fun (i : Nat) => D.int (lo + (i : Nat) * c)
def strsD : List D → Option (List Str)
  | [] => some []
  | .str y :: r => (strsD r).map (y :: ·)
  | _ => none
def fmtD (x : D) (M : Mm) (Q : QD) : Prop := match x with
  | .str y => y.length ≤ sizeLine ∧ Q (.str y) M
  | .int i => i.natAbs.log2 < 1920 ∧ Q (.str (toString i)) M
  | _ => False
def smtD (m : Sme) (x y : D) (M : Mm) (Q : QD) : Prop := match m, x with
  | .join, .str a => ∃ ds ys, seqD M y = some ds ∧ strsD ds = some ys ∧ (ys.map (·.length)).sum + ys.length * a.length ≤ 16777216 ∧ Q (.str (Txt.join a ys)) M
  | .zfill, .str a => ∃ i, y = .int i ∧ PadOk i = true ∧ Q (.str (Txt.zfill a i)) M
  | _, _ => False
def lrvD (x : D) (M : Mm) (Q : QD) : Prop := match x with
  | .ref a => ∃ ds, (M a = some (.lst ds) ∨ M a = some (.rol ds)) ∧ ∀ p, M p = none → Q (.ref p) (M.put p (.lst ds.reverse))
  | _ => False
def revD (x : D) (M : Mm) (Q : QD) : Prop := match x with
  | .ref p => ∃ ds, (M p = some (.lst ds) ∨ M p = some (.rol ds)) ∧ ∀ q, M q = none → Q (.ref q) (M.put q (.lst ds.reverse))
  | .tup ds => Q (.tup ds.reverse) M
  | _ => False
def xisD (Γ : Gm) (g : Nat) (x : D) (M1 : Mm) (Q : QD) : Prop := match Γ.exn, x, (Γ.gv g).clsOf with
  | some (p, C, dx), .ref b, some C' => b = p ∧ (∀ dd, dx = some dd → ∃ fs, M1 dd = some (.exd fs)) ∧ ∃ k, Γ.sub C C' = some k ∧ Q (.bl k) M1
  | _, _, _ => False
def isCla (k : Nat) : GV → Prop
  | .cla _ (some (n, _, dfl)) => n - k ≤ dfl.length
  | _ => False
def isIns : GV → Prop
  | .cla _ (some _) => True
  | _ => False
def mtN (Γ : Gm) (g : Nat) (m : Str) (k : Nat) : Prop := match Γ.mt g m with
  | some (n, _, dfl) => n - k ≤ dfl.length
  | none => False
def mkD (g : GV) (k : Nat) (ds : List D) (M : Mm) (E : EK) (Q : QD) : Prop := match g with
  | .cla C (some (n, sp, dfl)) => k ≤ n ∧ n - k ≤ dfl.length ∧ ds.length = k ∧ ∀ p, M p = none → sp (.ref p :: (ds ++ dfl.drop (dfl.length - (n - k)))) (M.put p (.ins C [])) E fun d M' => d = .non ∧ Q (.ref p) M'
  | _ => False
def mkkD (Γ : Gm) (g np : Nat) (ks : List Str) (ds ws : List D) (M : Mm) (E : EK) (Q : QD) : Prop := match Γ.gv g, Γ.kwc g np ks with
  | .cla C (some (_, sp, _)), some pat => ds.length = np ∧ ws.length = ks.length ∧ ∀ p, M p = none → sp (.ref p :: patD pat ds ws) (M.put p (.ins C [])) E fun d M' => d = .non ∧ Q (.ref p) M'
  | _, _ => False
def mcD (Γ : Gm) (g : Nat) (m : Str) (x : D) (k : Nat) (ds : List D) (M : Mm) (E : EK) (Q : QD) : Prop := match Γ.mt g m with
  | some (n, sp, dfl) => k ≤ n ∧ n - k ≤ dfl.length ∧ ds.length = k ∧ sp (x :: (ds ++ dfl.drop (dfl.length - (n - k)))) M E Q
  | none => False
def prD (Γ : Gm) (g : Nat) (f : Str) (x : D) (M : Mm) (Q : QD) : Prop := match Γ.pr g f with
  | some sp => sp [x] M (fun _ _ => False) Q
  | none => False
def InsD (M : Mm) (C : Addr) (x : D) : Prop := ∃ p fs, x = .ref p ∧ M p = some (.ins C fs)
def InsM (M : Mm) (C : Addr) (m : Str) (x : D) : Prop := ∃ p fs, x = .ref p ∧ M p = some (.ins C fs) ∧ fs.lookup m = none
def tyD (M : Mm) : D → Option (Sum String Addr)
  | .non => some (.inl "NoneType")
  | .bl _ => some (.inl "bool")
  | .int _ => some (.inl "int")
  | .str _ => some (.inl "str")
  | .tup _ => some (.inl "tuple")
  | .ref a => match M a with
    | some (.lst _) => some (.inl "list")
    | some (.rol _) => some (.inl "list")
    | some (.ins C _) => some (.inr C)
    | _ => none
  | .ty _ => none
def isoD (Γ : Gm) (C : Addr) (x : D) (M : Mm) (Q : QD) : Prop := match tyD M x with
  | some t => match Γ.isi t C with
    | some b => Q (.bl b) M
    | none => False
  | none => False
def E0 : EK := fun _ _ => False
mutual
def evE (Γ : Gm) : Ex → TD
  | .var i => fun ρ M _ Q => match ρ[i]? with
    | some (some d) => Q d M
    | _ => False
  | .int i => fun _ M _ Q => Q (.int i) M
  | .bl b => fun _ M _ Q => Q (.bl b) M
  | .non => fun _ M _ Q => Q .non M
  | .str x => fun _ M _ Q => Q (.str x) M
  | .gl g => fun _ M _ Q => match Γ.gv g with
    | .val d => Q d M
    | _ => False
  | .op o a b => fun ρ M E Q => evE Γ a ρ M E fun x M1 => evE Γ b ρ M1 E fun y M2 => opD o x y M2 Q
  | .neg a => fun ρ M E Q => evE Γ a ρ M E fun x M1 => match x with
    | .int i => Q (.int (-i)) M1
    | _ => False
  | .cmp o a b => fun ρ M E Q => evE Γ a ρ M E fun x M1 => evE Γ b ρ M1 E fun y M2 => ∃ c, cmpD M2 o x y = some c ∧ Q (.bl c) M2
  | .chn o1 o2 a b c => fun ρ M E Q => evE Γ a ρ M E fun x M1 => evE Γ b ρ M1 E fun y M2 => ∃ k, cmpD M2 o1 x y = some k ∧
      if k = true then evE Γ c ρ M2 E (fun z M3 => ∃ k', cmpD M3 o2 y z = some k' ∧ Q (.bl k') M3) else Q (.bl false) M2
  | .bop o es => evB Γ o es
  | .not a => fun ρ M E Q => evE Γ a ρ M E fun x M1 => match x with
    | .bl c => Q (.bl (!c)) M1
    | x => ∃ k, truD M1 x = some k ∧ Q (.bl (!k)) M1
  | .ite c a b => fun ρ M E Q => evT Γ c ρ M E fun k M1 => if k = true then evE Γ a ρ M1 E Q else evE Γ b ρ M1 E Q
  | .tup es => fun ρ M E Q => evEs Γ es ρ M E fun ds M1 => ds.length ≤ sizeLine ∧ Q (.tup ds) M1
  | .lst es => fun ρ M E Q => evEs Γ es ρ M E fun ds M1 => ds.length ≤ sizeLine ∧ ∀ p, M1 p = none → Q (.ref p) (M1.put p (.lst ds))
  | .ix a b => fun ρ M E Q => evE Γ a ρ M E fun x M1 => evE Γ b ρ M1 E fun y M2 => ixD x y M2 Q
  | .slc a lo hi => fun ρ M E Q => evE Γ a ρ M E fun x M1 => evO Γ lo ρ M1 E fun l M2 => evO Γ hi ρ M2 E fun h M3 => slcD x l h M3 Q
  | .call g es => fun ρ M E Q => evEs Γ es ρ M E fun ds M1 => callD (Γ.gv g) es.len ds M1 E Q
  | .bi b es => fun ρ M E Q => evEs Γ es ρ M E fun ds M1 => biD b ds M1 Q
  | .mth m a es => fun ρ M E Q => evE Γ a ρ M E fun x M1 => isL M1 x ∧ evEs Γ es ρ M1 E fun ds M2 => mthD m x ds M2 Q
  | .fld a f => fun ρ M E Q => evE Γ a ρ M E fun x M1 => match x with
    | .ref p => ∃ C fs d, M1 p = some (.ins C fs) ∧ Γ.fld C f ∧ fs.lookup f = some d ∧ Q d M1
    | _ => False
  | .lc own tg it c e => fun ρ M E Q => evI Γ it ρ M E fun items G M1 => ∀ p, M1 p = none →
      compL G p (fun d M2 K => tgD tg d (wipeD ρ own) fun ρ2 => evC Γ c ρ2 M2 E0 fun b M3 => if b = true then evE Γ e ρ2 M3 E0 (fun x M4 => K (some x) M4) else K none M3)
        items [] (M1.put p (.lst [])) fun M5 => Q (.ref p) M5
  | .xfl a f => fun ρ M E Q => evE Γ a ρ M E fun x M1 => match Γ.exn, x with
    | some (p, C, some dd), .ref b => b = p ∧ Γ.xfl C f ∧ ∃ fs d, M1 dd = some (.exd fs) ∧ fs.lookup f = some d ∧ Q d M1
    | _, _ => False
  | .xis a g => fun ρ M E Q => evE Γ a ρ M E fun x M1 => xisD Γ g x M1 Q
  | .tyn t => fun _ M _ Q => Q (.ty t.nm) M
  | .callk g es ks zs => fun ρ M E Q => (Γ.kwc g es.len ks).isSome = true ∧ evEs Γ es ρ M E fun ds M1 => evEs Γ zs ρ M1 E fun ws M2 => kwD Γ g es.len ks ds ws M2 E Q
  | .rev a => fun ρ M E Q => evE Γ a ρ M E fun x M1 => revD x M1 Q
  | .lrv a => fun ρ M E Q => evE Γ a ρ M E fun x M1 => lrvD x M1 Q
  | .mk g es => fun ρ M E Q => isCla es.len (Γ.gv g) ∧ evEs Γ es ρ M E fun ds M1 => mkD (Γ.gv g) es.len ds M1 E Q
  | .mkk g es ks zs => fun ρ M E Q => isIns (Γ.gv g) ∧ (Γ.kwc g es.len ks).isSome = true ∧ evEs Γ es ρ M E fun ds M1 => evEs Γ zs ρ M1 E fun ws M2 => mkkD Γ g es.len ks ds ws M2 E Q
  | .mc g a m es => fun ρ M E Q => match (Γ.gv g).insOf with
    | some C => mtN Γ g m es.len ∧ evE Γ a ρ M E fun x M1 => InsM M1 C m x ∧ evEs Γ es ρ M1 E fun ds M2 => mcD Γ g m x es.len ds M2 E Q
    | none => False
  | .prp g a f => fun ρ M E Q => match (Γ.gv g).insOf with
    | some C => (Γ.pr g f).isSome = true ∧ evE Γ a ρ M E fun x M1 => InsD M1 C x ∧ prD Γ g f x M1 Q
    | none => False
  | .lno g a => fun ρ M E Q => match (Γ.gv g).insOf with
    | some C => mtN Γ g "__len__" 0 ∧ evE Γ a ρ M E fun x M1 => InsD M1 C x ∧ mcD Γ g "__len__" x 0 [] M1 (fun _ _ => False) fun d M2 => ∃ i : Int, d = .int i ∧ 0 ≤ i ∧ i < 2 ^ 63 ∧ Q (.int i) M2
    | none => False
  | .iso a g => fun ρ M E Q => match (Γ.gv g).insOf with
    | some C => evE Γ a ρ M E fun x M1 => isoD Γ C x M1 Q
    | none => False
  | .oeq g a b => fun ρ M E Q => match (Γ.gv g).insOf with
    | some C => mtN Γ g "__eq__" 1 ∧ evE Γ a ρ M E fun x M1 => evE Γ b ρ M1 E fun y M2 => InsD M2 C x ∧ (∃ t, tyD M2 y = some t ∧ Γ.nf t C = true) ∧ mcD Γ g "__eq__" x 1 [y] M2 (fun _ _ => False) fun d M3 => ∃ c, d = .bl c ∧ Q (.bl c) M3
    | none => False
  | .one g a b => fun ρ M E Q => match (Γ.gv g).insOf with
    | some C => mtN Γ g "__eq__" 1 ∧ Γ.nf (.inl "!=") C = true ∧ evE Γ a ρ M E fun x M1 => evE Γ b ρ M1 E fun y M2 => InsD M2 C x ∧ (∃ t, tyD M2 y = some t ∧ Γ.nf t C = true) ∧ mcD Γ g "__eq__" x 1 [y] M2 (fun _ _ => False) fun d M3 => ∃ c, d = .bl c ∧ Q (.bl (!c)) M3
    | none => False
  | .fmt a => fun ρ M E Q => evE Γ a ρ M E fun x M1 => fmtD x M1 Q
  | .fst es => fun ρ M E Q => evJ Γ es Str.empty ρ M E fun out M1 => Q (.str out) M1
  | .smt m a e => fun ρ M E Q => evE Γ a ρ M E fun x M1 => (∃ z, x = .str z) ∧ evE Γ e ρ M1 E fun y M2 => smtD m x y M2 Q
/-- the parts of a text -/
def evJ (Γ : Gm) : Exs → Str → DEnv → Mm → EK → (Str → Mm → Prop) → Prop
  | .nil => fun acc _ M _ Q => Q acc M
  | .cons e es => fun acc ρ M E Q => evE Γ e ρ M E fun d M1 => ∃ y, d = .str y ∧ (acc ++ y).length ≤ sizeLine ∧ evJ Γ es (acc ++ y) ρ M1 E Q
def evEs (Γ : Gm) : Exs → TDs
  | .nil => fun _ M _ Q => Q [] M
  | .cons e es => fun ρ M E Q => evE Γ e ρ M E fun d M1 => evEs Γ es ρ M1 E fun ds M2 => Q (d :: ds) M2
def evO (Γ : Gm) : Exo → DEnv → Mm → EK → (Option Int → Mm → Prop) → Prop
  | .none => fun _ M _ Q => Q none M
  | .some e => fun ρ M E Q => evE Γ e ρ M E fun d M1 => match d with
    | .int i => Q (some i) M1
    | _ => False
def evC (Γ : Gm) : Teo → TDt
  | .none => fun _ M _ Q => Q true M
  | .some t => evT Γ t
/-- and, or, as values -/
def evB (Γ : Gm) (o : BoolOp) : Exs → TD
  | .nil => fun _ _ _ _ => False
  | .cons e es => fun ρ M E Q => match es with
    | .nil => evE Γ e ρ M E Q
    | _ => evE Γ e ρ M E fun x M1 => match x, o with
      | .bl true, .And => evB Γ o es ρ M1 E Q
      | .bl false, .And => Q (.bl false) M1
      | .bl true, .Or => Q (.bl true) M1
      | .bl false, .Or => evB Γ o es ρ M1 E Q
      | .int i, .Or => (i ≠ 0 ∧ Q (.int i) M1) ∨ (i = 0 ∧ evB Γ o es ρ M1 E Q)
      | _, _ => False
/-- as a test -/
def evT (Γ : Gm) : Te → TDt
  | .val e => fun ρ M E Q => evE Γ e ρ M E fun d M1 => ∃ k, truD M1 d = some k ∧ Q k M1
  | .bop o ts => evBT Γ o ts
  | .oeq g a b => fun ρ M E Q => match (Γ.gv g).insOf with
    | some C => mtN Γ g "__eq__" 1 ∧ evE Γ a ρ M E fun x M1 => evE Γ b ρ M1 E fun y M2 => InsD M2 C x ∧ (∃ t, tyD M2 y = some t ∧ Γ.nf t C = true) ∧ mcD Γ g "__eq__" x 1 [y] M2 (fun _ _ => False) fun d M3 => ∃ c, d = .bl c ∧ Q c M3
    | none => False
  | .not a => fun ρ M E Q => evT Γ a ρ M E fun k M1 => Q (!k) M1
  | .cmp o a b => fun ρ M E Q => evE Γ a ρ M E fun x M1 => evE Γ b ρ M1 E fun y M2 => ∃ c, cmpD M2 o x y = some c ∧ Q c M2
  | .chn o1 o2 a b c => fun ρ M E Q => evE Γ a ρ M E fun x M1 => evE Γ b ρ M1 E fun y M2 => ∃ k, cmpD M2 o1 x y = some k ∧
      if k = true then evE Γ c ρ M2 E (fun z M3 => ∃ k', cmpD M3 o2 y z = some k' ∧ Q k' M3) else Q false M2
def evBT (Γ : Gm) (o : BoolOp) : Tes → TDt
  | .nil => fun _ _ _ _ => False
  | .cons t ts => fun ρ M E Q => match ts with
    | .nil => evT Γ t ρ M E Q
    | _ => evT Γ t ρ M E fun k M1 => match k, o with
      | true, .And => evBT Γ o ts ρ M1 E Q
      | false, .And => Q false M1
      | true, .Or => Q true M1
      | false, .Or => evBT Γ o ts ρ M1 E Q
def evI (Γ : Gm) : Si → DEnv → Mm → EK → (List D → (Mm → Prop) → Mm → Prop) → Prop
  | .seq e => fun ρ M E Q => evE Γ e ρ M E fun d M1 => seqI d M1 Q
  | .rng1 a => fun ρ M E Q => evE Γ a ρ M E fun d M1 => match d with
    | .int j => sml j ∧ Q (rngD 0 j.toNat) (fun _ => True) M1
    | _ => False
  | .rng2 a b => fun ρ M E Q => evE Γ a ρ M E fun d M1 => evE Γ b ρ M1 E fun e M2 => match d, e with
    | .int i, .int j => sml i ∧ sml j ∧ Q (rngD i (j - i).toNat) (fun _ => True) M2
    | _, _ => False
  | .rng3 a b c => fun ρ M E Q => evE Γ a ρ M E fun d M1 => evE Γ b ρ M1 E fun e M2 => evE Γ c ρ M2 E fun f M3 => match d, e, f with
    | .int i, .int j, .int k => ∃ n, RgC i j k n ∧ Q (rngC i k n) (fun _ => True) M3
    | _, _, _ => False
  | .enm a => fun ρ M E Q => evE Γ a ρ M E fun d M1 => seqI d M1 fun ds G M2 => Q (enmD 0 ds) G M2
  | .rev a => fun ρ M E Q => evE Γ a ρ M E fun d M1 => seqI d M1 fun ds G M2 => Q ds.reverse G M2
  | .zip a b => fun ρ M E Q => evE Γ a ρ M E fun d M1 => evE Γ b ρ M1 E fun e M2 => seqI d M2 fun ds G M3 => seqI e M3 fun es G' M4 => Q (zipD ds es) (fun M => G M ∧ G' M) M4
end
end DL
namespace DL
open PySem PySem.Spec L2
mutual
def Tg.ss : Tg → List Nat
  | .nm i => [i]
  | .tup ts => ts.ss
def Tgs.ss : Tgs → List Nat
  | .nil => []
  | .cons t ts => t.ss ++ ts.ss
end
structure Tb where
  N : List Str
  sc : Scope
  gn : List (Str × Option (Nat × Nat))
  xn : List Str
  gcd : Bool
  lcm : Bool := false
  cl : List Str := []
  fn : Bool
  calm : Bool := true
def Tb.vis (T : Tb) (x : Str) : Bool := match T.sc.names.lookup x with
  | some .local => true
  | some .cell => true
  | some .free => true
  | _ => false
def Tb.loc (T : Tb) (x : Str) : Bool := match T.sc.names.lookup x with
  | some .local => true
  | some .cell => T.fn || T.cl.contains x
  | _ => false
def Tb.glo (T : Tb) (x : Str) : Bool := match T.sc.names.lookup x with
  | some .globalImplicit => true
  | _ => false
def Tb.blk (T : Tb) (scope : Scope) : Tb := { T with sc := relS scope T.sc, fn := false, cl := (scope.names.map (·.1)).filter fun x => scope.names.lookup x == some .cell }
def Tb.own (T : Tb) (own : List Nat) : List (Str × Nat) := own.map fun i => (T.N.getD i "", i)
mutual
def chkTg (T : Tb) : Tg → Expr → Bool
  | .nm i, .Name x _ => decide (T.N[i]? = some x) && T.loc x
  | .tup ts, .Tuple es _ _ => T.calm && chkTgs T ts es
  | _, _ => false
def chkTgs (T : Tb) : Tgs → List Expr → Bool
  | .nil, [] => true
  | .cons t ts, e :: es => chkTg T t e && chkTgs T ts es
  | _, _ => false
end
def isTup : Expr → Bool
  | .Tuple _ _ _ => true
  | _ => false
mutual
def chkE (T : Tb) : Ex → Expr → Bool
  | .var i, .Name x _ => decide (T.N[i]? = some x) && T.vis x && plainN x
  | .int i, .Constant (.int j) _ _ => decide (i = j)
  | .bl i, .Constant (.bool j) _ _ => decide (i = j)
  | .non, .Constant .none _ _ => true
  | .str x, .Constant (.str y) _ _ => decide (x = y)
  | .gl g, .Name x _ => decide (T.gn[g]? = some (x, none)) && T.glo x && plainN x
  | .op o a b, .BinOp a' o' b' _ => decide (o = o') && chkE T a a' && chkE T b b'
  | .neg a, .UnaryOp .USub a' _ => chkE T a a'
  | .cmp o a b, .Compare a' [o'] [b'] _ => decide (o = o') && !behindInMarks o' b' && chkE T a a' && chkE T b b'
  | .chn o1 o2 a b c, .Compare a' [o1', o2'] [b', c'] _ => decide (o1 = o1') && decide (o2 = o2') && !lastMarks [o1', o2'] [b', c'] && chkE T a a' && chkE T b b' && chkE T c c'
  | .bop o es, .BoolOp o' vs _ => decide (o = o') && !vs.isEmpty && chkEs T es vs
  | .not a, .UnaryOp .Not a' _ => chkE T a a'
  | .ite c a b, .IfExp c' a' b' _ => chkT T c c' && chkE T a a' && chkE T b b'
  | .tup es, .Tuple vs _ _ => chkEs T es vs
  | .lst es, .List vs _ => chkEs T es vs
  | .ix a b, .Subscript a' b' _ => chkE T a a' && chkE T b b'
  | .slc a lo hi, .Subscript a' (.Slice lo' hi' none _) _ => chkE T a a' && chkO T lo lo' && chkO T hi hi'
  | .call g es, .Call (.Name x _) vs [] _ => T.calm && (match T.gn[g]? with
      | some (y, some (n, k)) => decide (x = y) && decide (es.len ≤ n) && decide (n - es.len ≤ k)
      | _ => false) && T.glo x && plainN x && !vs.isEmpty && chkEs T es vs
  | .bi b es, .Call (.Name x _) vs [] _ => T.calm && decide (b.name = x) && (if b = .gcd then T.gcd else if b = .lcm then T.lcm else T.xn.contains x) && T.glo x && !vs.isEmpty && chkEs T es vs
  | .mth .append a es, .Call (.Attribute a' m ap) [v] [] cp => decide (m = ("append" : Str)) && (ap.endLine == cp.line) && chkE T a a' && chkEs T es [v]
  | .mth .pop a es, .Call (.Attribute a' m ap) [] [] cp => decide (m = ("pop" : Str)) && (ap.endLine == cp.line) && chkE T a a' && chkEs T es []
  | .fld a f, .Attribute a' f' _ => decide (f = f') && chkE T a a'
  | .lc own tg it c e, .ListComp e' [⟨tg', it', ifs, asy⟩] scope _ => T.calm && decide (asy = 0) && blkC T.N T.sc scope (T.own own) && tg.ss.all (fun i => own.contains i) && chkTg (T.blk scope) tg tg' && chkI T (isTup tg') it it' && chkC (T.blk scope) c ifs && chkE (T.blk scope) e e'
  | .callk g es ks zs, .Call (.Name x _) vs kws _ => T.calm && (match T.gn[g]? with
      | some (y, some _) => decide (x = y)
      | _ => false) && T.glo x && plainN x && !kws.isEmpty && decide (kws.map (·.arg) = ks.map some) && chkEs T es vs && chkEs T zs (kws.map (·.value))
  | .mk g es, .Call (.Name x _) vs [] _ => T.calm && !decide (x = ("super" : Str)) && decide (T.gn[g]? = some (x, none)) && T.glo x && plainN x && chkEs T es vs
  | .mkk g es ks zs, .Call (.Name x _) vs kws _ => T.calm && decide (T.gn[g]? = some (x, none)) && T.glo x && plainN x && !vs.isEmpty && !kws.isEmpty && decide (kws.map (·.arg) = ks.map some) && chkEs T es vs && chkEs T zs (kws.map (·.value))
  | .mc g a m es, .Call (.Attribute a' m' ap) vs [] cp => T.calm && decide (m = m') && (ap.endLine == cp.line) && decide (vs.length < 30) && (T.gn[g]?).isSome && chkE T a a' && chkEs T es vs
  | .prp g a f, .Attribute a' f' _ => T.calm && decide (f = f') && (T.gn[g]?).isSome && chkE T a a'
  | .lno g a, .Call (.Name x _) [a'] [] _ => T.calm && decide (x = ("len" : Str)) && T.xn.contains x && T.glo x && (T.gn[g]?).isSome && chkE T a a'
  | .iso a g, .Call (.Name x _) [a', .Name y _] [] _ => T.calm && decide (x = ("isinstance" : Str)) && T.xn.contains x && T.glo x && decide (T.gn[g]? = some (y, none)) && T.glo y && plainN y && chkE T a a'
  | .oeq g a b, .Compare a' [.Eq] [b'] _ => T.calm && !behindInMarks .Eq b' && (T.gn[g]?).isSome && chkE T a a' && chkE T b b'
  | .one g a b, .Compare a' [.NotEq] [b'] _ => T.calm && !behindInMarks .NotEq b' && (T.gn[g]?).isSome && chkE T a a' && chkE T b b'
  | .tyn t, .Name x _ => decide (t ≠ .none) && decide (x = Str.ofString t.nm) && T.xn.contains x && T.glo x
  | .rev a, .Subscript a' (.Slice none none (some (.UnaryOp .USub (.Constant (.int k) _ _) _)) _) _ => decide (k = 1) && chkE T a a'
  | .lrv a, .Call (.Name x _) [.Call (.Name y _) [a'] [] _] [] _ => T.calm && decide (x = ("list" : Str)) && decide (y = ("reversed" : Str)) && T.xn.contains x && T.glo x && T.xn.contains y && T.glo y && chkE T a a'
  | .fmt a, .FormattedValue a' c none _ => decide (c = -1) && chkE T a a'
  | .fst es, .JoinedStr (v1 :: v2 :: vs) _ => chkEs T es (v1 :: v2 :: vs)
  | .smt .join a e, .Call (.Attribute a' m ap) [v] [] cp => decide (m = ("join" : Str)) && (ap.endLine == cp.line) && chkE T a a' && chkE T e v
  | .smt .zfill a e, .Call (.Attribute a' m ap) [v] [] cp => decide (m = ("zfill" : Str)) && (ap.endLine == cp.line) && chkE T a a' && chkE T e v
  | .xfl a f, .Attribute a' f' _ => !T.calm && decide (f = f') && chkE T a a'
  | .xis a g, .Call (.Name x _) [a', .Name y _] [] _ => !T.calm && decide (x = ("isinstance" : Str)) && T.xn.contains x && T.glo x && (match T.gn[g]? with | some (z, _) => decide (y = z) | _ => false) && T.glo y && plainN y && chkE T a a'
  | _, _ => false
def chkEs (T : Tb) : Exs → List Expr → Bool
  | .nil, [] => true
  | .cons e es, v :: vs => chkE T e v && chkEs T es vs
  | _, _ => false
def chkO (T : Tb) : Exo → Option Expr → Bool
  | .none, none => true
  | .some e, some v => chkE T e v
  | _, _ => false
def chkC (T : Tb) : Teo → List Expr → Bool
  | .none, [] => true
  | .some e, [v] => chkT T e v
  | _, _ => false
def chkT (T : Tb) : Te → Expr → Bool
  | .val e, v => chkE T e v && (match v with | .BoolOp _ _ _ => false | .UnaryOp .Not _ _ => false | .IfExp _ _ _ _ => false | .Compare _ _ _ _ => false | _ => true)
  | .cmp o a b, .Compare a' [o'] [b'] _ => decide (o = o') && !behindInMarks o' b' && chkE T a a' && chkE T b b'
  | .chn o1 o2 a b c, .Compare a' [o1', o2'] [b', c'] _ => decide (o1 = o1') && decide (o2 = o2') && !lastMarks [o1', o2'] [b', c'] && chkE T a a' && chkE T b b' && chkE T c c'
  | .bop o ts, .BoolOp o' vs _ => decide (o = o') && !vs.isEmpty && chkTs T ts vs
  | .oeq g a b, .Compare a' [.Eq] [b'] _ => T.calm && !behindInMarks .Eq b' && (T.gn[g]?).isSome && chkE T a a' && chkE T b b'
  | .not a, .UnaryOp .Not a' _ => chkT T a a'
  | _, _ => false
def chkTs (T : Tb) : Tes → List Expr → Bool
  | .nil, [] => true
  | .cons e es, v :: vs => chkT T e v && chkTs T es vs
  | _, _ => false
def chkI (T : Tb) (pr : Bool) : Si → Expr → Bool
  | .seq e, v => chkE T e v
  | .rng1 a, .Call (.Name x _) [a'] [] _ => decide (x = ("range" : Str)) && T.xn.contains x && T.glo x && chkE T a a'
  | .rng2 a b, .Call (.Name x _) [a', b'] [] _ => decide (x = ("range" : Str)) && T.xn.contains x && T.glo x && chkE T a a' && chkE T b b'
  | .rng3 a b c, .Call (.Name x _) [a', b', c'] [] _ => decide (x = ("range" : Str)) && T.xn.contains x && T.glo x && chkE T a a' && chkE T b b' && chkE T c c'
  | .enm a, .Call (.Name x _) [a'] [] _ => pr && decide (x = ("enumerate" : Str)) && T.xn.contains x && T.glo x && chkE T a a'
  | .rev a, .Call (.Name x _) [a'] [] _ => decide (x = ("reversed" : Str)) && T.xn.contains x && T.glo x && chkE T a a'
  | .zip a b, .Call (.Name x _) [a', b'] [] _ => pr && decide (x = ("zip" : Str)) && T.xn.contains x && T.glo x && chkE T a a' && chkE T b b'
  | _, _ => false
end
def liftSp (K : PySem.W.Frag) (n : Nat) (sp : DSp) : Sp := fun vs H Q E => vs.length = n ∧ ∃ ds M Ed Qd, RelM K M H ∧ Reps K H ds vs ∧ sp ds M Ed Qd ∧
  (∀ d M' v H', TX H H' → RelM K M' H' → Rep K H' d v → Qd d M' → Q v H') ∧
  (∀ x M' cls dd H', TX H H' → RelM K M' H' → RelX K H' x cls dd → Ed x M' → E cls dd H')
def TxtV : V → Prop
  | .str y => y.length ≤ 1000
  | .int i => i.natAbs.log2 < 1920
  | _ => False
def TxtD : D → Prop
  | .str y => y.length ≤ 1000
  | .int i => i.natAbs.log2 < 1920
  | _ => False
def spInit (C : Addr) (fs : List Str) (tx : List Nat) : Sp := fun vs H Q _ => ∃ a ws, vs = .ref a :: ws ∧ ws.length = fs.length ∧ H a = some (exo a C none) ∧ (∀ i ∈ tx, ∃ v, ws[i]? = some v ∧ TxtV v) ∧
  ((fs = [] ∧ Q .non H) ∨ (fs ≠ [] ∧ ∀ dx H', H dx = none → dx ≠ a → H' a = some (exo a C (some dx)) → H' dx = some (exd dx (fs.zip ws).reverse) → (∀ b, b ≠ a → b ≠ dx → H' b = H b) → Q .non H'))
structure ErrOk (CX : CXT) (P : Program) (w : World) (K : PySem.W.Frag) (mg : Str → Option Value) (base : Heap) (lv : Nat) (C : Addr) (fs : List Str) (tx : List Nat) : Prop where
  oex : OexC K C
  nd : fs.Nodup
  few : fs.length ≤ 9
  made : ∃ k fI fd ps, k + 1 ≤ lv ∧ PySem.W.findIn K (.ref C) "__init__" = some (some (.ref fI)) ∧ PySem.W.typeIn K (.ref fI) = some (.type "function") ∧ FnOk P w K mg base CX k fI fd ps (spInit C fs tx) ∧ Binds K fd ps []
structure Mk0 (K : PySem.W.Frag) (C : Addr) : Prop where
  makes : PySem.W.makesIn K C = true
  init : PySem.W.findIn K (.ref C) "__init__" = some (some (.builtin "object.__init__"))
  top : PySem.W.mroIn K C (.type "object") = some true
  self : PySem.W.mroIn K C (.ref C) = some true
  kp : PySem.W.keepIn K (.ref C) = true
def spI0 : DSp := fun _ M _ Q => Q .non M
def DflOk (K : PySem.W.Frag) (fd : FuncData) (ps : List Str) (dfl : List D) : Prop := ∀ j, j ≤ dfl.length → ∃ dvs ds, Binds K fd ps ds ∧ Vals dvs ds ∧ ∀ H, Reps K H (dfl.drop (dfl.length - j)) dvs
def ClaOk (CX : CXT) (P : Program) (w : World) (K : PySem.W.Frag) (mg : Str → Option Value) (base : Heap) (lv : Nat) (C : Addr) : Option (Nat × DSp × List D) → Prop
  | none => True
  | some (n, sp, dfl) => (∃ k f fd ps, k + 1 ≤ lv ∧ Mk K C f ∧ FnOk P w K mg base CX k f fd ps (liftSp K (n + 1) sp) ∧ ps.length = n + 1 ∧ DflOk K fd ps dfl) ∨ (Mk0 K C ∧ n = 0 ∧ dfl = [] ∧ sp = spI0)
def MtOk (CX : CXT) (P : Program) (w : World) (K : PySem.W.Frag) (mg : Str → Option Value) (base : Heap) (lv : Nat) (C : Addr) (m : Str) (n : Nat) (sp : DSp) (dfl : List D) : Prop :=
  ∃ k f fd ps, k + 1 ≤ lv ∧ Cls K C ∧ Meth K C m f ∧ FnOk P w K mg base CX k f fd ps (liftSp K (n + 1) sp) ∧ ps.length = n + 1 ∧ DflOk K fd ps dfl
def PrOk (CX : CXT) (P : Program) (w : World) (K : PySem.W.Frag) (mg : Str → Option Value) (base : Heap) (lv : Nat) (C : Addr) (f : Str) (sp : DSp) : Prop :=
  ∃ k p g fd ps, k + 1 ≤ lv ∧ Cls K C ∧ PropOf K C f p g ∧ FnOk P w K mg base CX k g fd ps (liftSp K 1 sp) ∧ Binds K fd ps []
structure InsF (K : PySem.W.Frag) (C : Addr) : Prop where
  cl : Cls K C
  ha : PySem.W.findIn K (.ref C) "__class__" = some (some (.builtin "object.__class__"))
  hn : PySem.W.specialIn K (.builtin "object.__class__") "__get__" = some (some (.builtin "getset_descriptor.__get__"))
  htk : PySem.W.takesIn K (.builtin "object.__class__") = some true
  hm : PySem.W.mroIn K C (.type "object") = some true
def IsiOk (K : PySem.W.Frag) : Sum String Addr → Addr → Bool → Prop
  | .inl t, C, b => PySem.W.kitOne K (.type t) (.ref C) = some b
  | .inr D, C, b => InsF K D ∧ PySem.W.kitOne K (.ref D) (.ref C) = some b
def KwcOk (CX : CXT) (P : Program) (w : World) (K : PySem.W.Frag) (mg : Str → Option Value) (base : Heap) (lv : Nat) (C : Addr) (np : Nat) (ks : List Str) (pat : List (Sum Nat D)) : Option (Nat × DSp × List D) → Prop
  | none => True
  | some (n', sp, _) => ∃ k f fd ps gg gV, k + 1 ≤ lv ∧ Mk K C f ∧ FnOk P w K mg base CX k f fd ps (liftSp K (n' + 1) sp) ∧ KBn K fd ps (np + 1) ks gg gV ∧
    ∀ H d v ds vs es zs, ds.length = np → es.length = ks.length → Rep K H d v → Reps K H ds vs → Reps K H es zs → Reps K H (d :: patD pat ds es) (gV (v :: vs) zs) ∧ (gV (v :: vs) zs).length = n' + 1
def GlobOk (CX : CXT) (X : Cx) (lv : Nat) (x : Str) : Option (Nat × Nat) → GV → Prop
  | some (n, k), .fn n' sp dfl => n' = n ∧ dfl.length = k ∧ ∃ f fd ps, FnOk X.prog X.w X.K X.mg X.base CX lv f fd ps (liftSp X.K n sp) ∧ X.mg x = some (.ref f) ∧ PySem.W.keepIn X.K (.ref f) = true ∧ ps.length = n ∧
      ∀ j, j ≤ k → ∃ dvs ds, Binds X.K fd ps ds ∧ Vals dvs ds ∧ ∀ H, Reps X.K H (dfl.drop (k - j)) dvs
  | none, .val d => ∃ u v, X.mg x = some u ∧ RelV v u ∧ ∀ H, Rep X.K H d v
  | none, .cls C => X.mg x = some (.ref C)
  | none, .err C fs tx => X.mg x = some (.ref C) ∧ ErrOk CX X.prog X.w X.K X.mg X.base lv C fs tx
  | none, .cla C i => X.mg x = some (.ref C) ∧ ClaOk CX X.prog X.w X.K X.mg X.base lv C i
  | _, _ => False
def KwOk (CX : CXT) (P : Program) (w : World) (K : PySem.W.Frag) (mg : Str → Option Value) (base : Heap) (lv : Nat) (x : Str) (n' : Nat) (sp : DSp) (np : Nat) (ks : List Str) (pat : List (Sum Nat D)) : Prop :=
  ∃ f fd ps gg gV, FnOk P w K mg base CX lv f fd ps (liftSp K n' sp) ∧ mg x = some (.ref f) ∧ PySem.W.keepIn K (.ref f) = true ∧ KBn K fd ps np ks gg gV ∧
    ∀ H ds vs es zs, ds.length = np → es.length = ks.length → Reps K H ds vs → Reps K H es zs → Reps K H (patD pat ds es) (gV vs zs) ∧ (gV vs zs).length = n'
structure Good (CX : CXT) (X : Cx) (T : Tb) (Γ : Gm) (W : WX) (lv : Nat) : Prop where
  n : X.N = T.N
  nd : X.N.Nodup
  calm : T.calm = true → X.calm = true
  sc : X.env.scope = T.sc
  room : T.calm = true → Room lv X.A
  hu : X.A.units + 64 < cLine
  fn : (T.fn = true → ∀ x, X.fn x = true) ∧ ∀ x ∈ T.cl, X.fn x = true
  xn : ∀ x ∈ T.xn, X.mg x = none
  gcd : (T.gcd = true → X.mg "gcd" = some (.builtin "math.gcd")) ∧ (T.lcm = true → X.mg "lcm" = some (.builtin "math.lcm"))
  glob : ∀ g x o, T.gn[g]? = some (x, o) → GlobOk CX X lv x o (Γ.gv g)
  fld : ∀ C f, Γ.fld C f → Cls X.K C ∧ NoAttr X.K C f
  kwc : ∀ g x nk np ks pat n' sp dfl, T.gn[g]? = some (x, some nk) → Γ.gv g = .fn n' sp dfl → Γ.kwc g np ks = some pat → KwOk CX X.prog X.w X.K X.mg X.base lv x n' sp np ks pat
  mt : ∀ g C m n sp dfl, (Γ.gv g).insOf = some C → Γ.mt g m = some (n, sp, dfl) → MtOk CX X.prog X.w X.K X.mg X.base lv C m n sp dfl
  pr : ∀ g C f sp, (Γ.gv g).insOf = some C → Γ.pr g f = some sp → PrOk CX X.prog X.w X.K X.mg X.base lv C f sp
  isi : ∀ t C b, Γ.isi t C = some b → IsiOk X.K t C b
  kwm : ∀ g x np ks pat C i, T.gn[g]? = some (x, none) → Γ.gv g = .cla C i → Γ.kwc g np ks = some pat → KwcOk CX X.prog X.w X.K X.mg X.base lv C np ks pat i
  nf : ∀ t C, Γ.nf t C = true → nfX X.K t C = true
  xfl : ∀ C f, Γ.xfl C f → XfC X.K C ∧ PySem.W.findIn X.K (.ref C) f = some none
  sub : ∀ C C' b, Γ.sub C C' = some b → ExcC X.K C ∧ PySem.W.kitOne X.K (.ref C) (.ref C') = some b ∧ PySem.W.exmOne X.K (.ref C) (.ref C') = some b
  exn : T.calm = false → ∀ a C d, Γ.exn = some (a, C, d) → ∃ (Y : Cx) (oe : Obj) (pn : List (Addr × Obj)), X = Y.suite a ((a, oe) :: pn) ∧ Zc (.ref C) d oe ∧ ∃ vs, oe.data = .fields vs
  pass : ∀ σ, PassesAt CX X σ (WE W σ)
  cx0 : ∀ o H s e s', ¬ CX o H s (fun _ _ _ => False) e s'
def W0 : WX := fun _ _ _ _ => False
theorem star_ok {T : Tb} {m : Ex} {e : Expr} (h : chkE T m e = true) (es : List Expr) (env : Env) : starEach (e :: es) env = (false, eval e env) :: starEach es env := by
  cases e <;> first | rfl | (cases m <;> simp [chkE] at h)
theorem starAll_ok {T : Tb} : ∀ {ms : Exs} {es : List Expr}, chkEs T ms es = true → ∀ env, (starEach es env).any (·.1) = false
  | .nil, [], _, _ => rfl
  | .cons m ms, e :: es, h, env => by
    simp only [chkEs, Bool.and_eq_true] at h
    rw [star_ok h.1, List.any_cons, starAll_ok h.2 env]; rfl
  | .nil, _ :: _, h, _ => by simp [chkEs] at h
  | .cons _ _, [], h, _ => by simp [chkEs] at h
theorem back_any (pos : Pos) : ∀ (l : List (Bool × Sem Value)), (backTo pos l).any (·.1) = l.any (·.1) := by
  intro l
  unfold backTo
  first | (rw [List.any_map]; rfl) | simp [List.any_map]
theorem plainIx_ok {T : Tb} {m : Ex} {e : Expr} (h : chkE T m e = true) : PlainIx e := by
  intro o i
  cases e <;> first | rfl | (cases m <;> simp [chkE] at h)
theorem attr_ok {T : Tb} {m : Ex} {e : Expr} (h : chkE T m e = true) (f : Str) (env : Env) : attributeBase e f env (eval e env) = eval e env := by
  cases e with
  | Call fn args kw pos =>
    cases args with
    | cons a as => cases fn <;> rfl
    | nil => cases fn <;> first | rfl | (cases m <;> simp [chkE] at h; done) | (cases kw <;> first | rfl | (cases m <;> first | (simp [chkE] at h; done) | (
        simp only [chkE, Bool.and_eq_true, Bool.not_eq_true', decide_eq_false_iff_not] at h
        have hs := h.1.1.1.1.2
        unfold attributeBase
        simp [bne_iff_ne.mpr hs])))
  | _ => rfl
theorem iter_ok {T : Tb} {pr : Bool} {m : Si} {e : Expr} (h : chkI T pr m e = true) (env : PySem.Env) : ∀ x, foldedSetIterable e env x = pure x := by
  intro x
  cases e with
  | Set a b c => cases m <;> first | (simp [chkI] at h; done) | (simp only [chkI] at h; rename_i m; cases m <;> simp [chkE] at h)
  | _ => rfl
theorem own_map (T : Tb) (own : List Nat) : (T.own own).map (·.2) = own := by
  unfold Tb.own
  rw [List.map_map]
  induction own with
  | nil => rfl
  | cons a as ih => rw [List.map_cons, ih]; rfl
end DL
namespace DL
open PySem PySem.Spec L2
section
variable {CX : CXT} {X : Cx} {T : Tb} {Γ : Gm} {W : WX} {lv : Nat}
theorem plainN_ok {x : Str} (h : plainN x = true) : (x == ("__debug__" : Str)) = false ∧ (x == ("__classdict__" : Str)) = false ∧ x ≠ "__name__" := by
  unfold plainN at h
  simp only [Bool.and_eq_true, Bool.not_eq_true'] at h
  refine ⟨h.1.1, h.1.2, fun e => ?_⟩
  have := h.2
  rw [e] at this
  simp at this
theorem Good.vis (G : Good CX X T Γ W lv) {x : Str} (h : T.vis x = true) : Vis X.env.scope x := by
  rw [G.sc]
  unfold Tb.vis at h
  unfold Vis
  split at h
  · rename_i e; exact .inl e
  · rename_i e; exact .inr (.inl e)
  · rename_i e; exact .inr (.inr e)
  · cases h
theorem Good.gl (G : Good CX X T Γ W lv) {x : Str} (h : T.glo x = true) : Gl X x := by
  unfold Gl PySem.Env.kindOf
  rw [G.sc]
  unfold Tb.glo at h
  split at h
  · assumption
  · cases h
theorem Good.loc (G : Good CX X T Γ W lv) {x : Str} (h : T.loc x = true) : L2.Loc X.env.scope x ∧ (X.fn x = true ∨ X.env.scope.names.lookup x = some .local) := by
  rw [G.sc]
  unfold Tb.loc at h
  unfold L2.Loc
  split at h
  · rename_i e; exact ⟨.inl e, .inr e⟩
  · rename_i e
    refine ⟨.inr e, .inl ?_⟩
    rw [Bool.or_eq_true] at h
    rcases h with h | h
    · exact G.fn.1 h x
    · exact G.fn.2 x (by simpa using h)
  · cases h
def liftG (K : PySem.W.Frag) (ss : List Nat) (td : D → DEnv → (DEnv → Prop) → Prop) : TG := fun v σ H Q => ∃ d ρ M Qd, Rep K H d v ∧ Rel K ρ M σ H ∧ td d ρ Qd ∧
  ∀ ρ' σ', Rel K ρ' M σ' H → σ'.length = σ.length → (∀ i, i ∉ ss → σ'[i]? = σ[i]?) → Qd ρ' → Q σ' H
def liftGs (K : PySem.W.Frag) (ss : List Nat) (td : List D → DEnv → (DEnv → Prop) → Prop) : TGs := fun vs σ H Q => ∃ ds ρ M Qd, Reps K H ds vs ∧ Rel K ρ M σ H ∧ td ds ρ Qd ∧
  ∀ ρ' σ', Rel K ρ' M σ' H → σ'.length = σ.length → (∀ i, i ∉ ss → σ'[i]? = σ[i]?) → Qd ρ' → Q σ' H
theorem each_star {T : Tb} {ts : Tgs} {es : List Expr} (h : chkTgs T ts es = true) (env : PySem.Env) : (assignEach es env).findIdx? (·.1) = none ∧ (assignEach es env).length = es.length := by
  induction es generalizing ts with
  | nil => exact ⟨rfl, rfl⟩
  | cons e es ih =>
    cases ts with
    | nil => simp [chkTgs] at h
    | cons t ts =>
      simp only [chkTgs, Bool.and_eq_true] at h
      obtain ⟨a, b⟩ := ih h.2
      cases t with
      | nm i =>
        cases e <;> first | (simp [chkTg] at h; done) | skip
        refine ⟨?_, by rw [show assignEach (_ :: es) env = (false, _) :: assignEach es env from rfl, List.length_cons, b]; rfl⟩
        rw [show assignEach (_ :: es) env = (false, _) :: assignEach es env from rfl, List.findIdx?_cons, a]; rfl
      | tup us =>
        cases e <;> first | (simp [chkTg] at h; done) | skip
        refine ⟨?_, by rw [show assignEach (_ :: es) env = (false, _) :: assignEach es env from rfl, List.length_cons, b]; rfl⟩
        rw [show assignEach (_ :: es) env = (false, _) :: assignEach es env from rfl, List.findIdx?_cons, a]; rfl
mutual
theorem tgD_ex : ∀ (t : Tg) (d : D) (ρ : DEnv) (Q : DEnv → Prop), tgD t d ρ Q → ∃ ρ', Q ρ'
  | .nm i, d, ρ, Q, h => ⟨_, h⟩
  | .tup ts, d, ρ, Q, h => by
    cases d <;> simp only [tgD] at h
    exact (tgsD_ex ts _ ρ Q h).1
theorem tgsD_ex : ∀ (ts : Tgs) (ds : List D) (ρ : DEnv) (Q : DEnv → Prop), tgsD ts ds ρ Q → (∃ ρ', Q ρ') ∧ ∀ {T : Tb} {es : List Expr}, chkTgs T ts es = true → ds.length = es.length
  | .nil, [], ρ, Q, h => ⟨⟨_, h⟩, fun {T es} c => by cases es <;> first | rfl | (simp [chkTgs] at c)⟩
  | .nil, _ :: _, ρ, Q, h => by simp [tgsD] at h
  | .cons t ts, [], ρ, Q, h => by simp [tgsD] at h
  | .cons t ts, d :: ds, ρ, Q, h => by
    simp only [tgsD] at h
    obtain ⟨ρ1, h1⟩ := tgD_ex t d ρ _ h
    obtain ⟨e, l⟩ := tgsD_ex ts ds ρ1 Q h1
    refine ⟨e, fun {T es} c => ?_⟩
    cases es with
    | nil => simp [chkTgs] at c
    | cons e es =>
      simp only [chkTgs, Bool.and_eq_true] at c
      rw [List.length_cons, List.length_cons, l c.2]
end
mutual
theorem soundG (G : Good CX X T Γ W lv) : ∀ (t : Tg) (e : Expr), chkTg T t e = true → PG X e (liftG X.K t.ss (tgD t))
  | .nm i, e, h => by
    cases e <;> first | (simp [chkTg] at h; done) | skip
    rename_i x pos
    simp only [chkTg, Bool.and_eq_true, decide_eq_true_eq] at h
    obtain ⟨l, f⟩ := G.loc h.2
    refine ⟨fun pins s σ H v u Q I r q => ?_⟩
    refine (pg_name G.nd (by rw [G.n]; exact h.1) l f).run pins s σ H v u Q I r ?_
    obtain ⟨d, ρ, M, Qd, rd, R, q, k⟩ := q
    exact k _ _ ⟨R.env.set rd, R.mem⟩ (by simp) (fun j hj => List.getElem?_set_ne (by simp [Tg.ss] at hj; omega)) q
  | .tup ts, e, h => by
    cases e <;> first | (simp [chkTg] at h; done) | skip
    rename_i es k pos
    simp only [chkTg, Bool.and_eq_true] at h
    obtain ⟨hcm, h⟩ := h
    obtain ⟨st, sl⟩ := each_star h X.env
    refine ⟨fun pins s σ H v u Q I r q => ?_⟩
    refine (pg_tup (G.calm hcm) (soundGs G ts es h) sl st).run pins s σ H v u Q I r ?_
    obtain ⟨d, ρ, M, Qd, rd, R, q, k⟩ := q
    cases d <;> simp only [tgD] at q <;> try (exact q.elim)
    rename_i ds
    obtain ⟨a, xs, rfl, sq, rs⟩ := rd.tup_inv
    refine ⟨a, xs, rfl, sq, ?_, ds, ρ, M, Qd, rs, R, q, fun ρ' σ' R' hl hs hq => k ρ' σ' R' hl hs hq⟩
    rw [← rs.length]; exact (tgsD_ex ts ds ρ Qd q).2 h
theorem soundGs (G : Good CX X T Γ W lv) : ∀ (ts : Tgs) (es : List Expr), chkTgs T ts es = true → PGs X es (liftGs X.K ts.ss (tgsD ts))
  | .nil, es, h => by
    cases es with
    | cons _ _ => simp [chkTgs] at h
    | nil =>
      refine ⟨fun pins s σ H vs us Q I r q => pgs_nil.run pins s σ H vs us Q I r ?_⟩
      obtain ⟨ds, ρ, M, Qd, rd, R, q, k⟩ := q
      cases ds with
      | nil => cases rd; exact ⟨rfl, k ρ σ R rfl (fun _ _ => rfl) q⟩
      | cons _ _ => exact q.elim
  | .cons t ts, es, h => by
    cases es with
    | nil => simp [chkTgs] at h
    | cons e es =>
      simp only [chkTgs, Bool.and_eq_true] at h
      have hs : (assignEach (e :: es) X.env).map (·.2) = assign e X.env :: (assignEach es X.env).map (·.2) := by
        cases t <;> cases e <;> first | rfl | (simp [chkTg] at h; done)
      refine ⟨fun pins s σ H vs us Q I r q => (pgs_cons (soundG G t e h.1) (soundGs G ts es h.2) hs).run pins s σ H vs us Q I r ?_⟩
      obtain ⟨ds, ρ, M, Qd, rd, R, q, k⟩ := q
      cases ds with
      | nil => exact q.elim
      | cons d ds =>
        cases rd with
        | cons r1 r2 =>
          refine ⟨_, _, rfl, d, ρ, M, _, r1, R, q, fun ρ1 σ1 R1 l1 s1 q1 => ⟨ds, ρ1, M, Qd, r2, R1, q1, fun ρ2 σ2 R2 l2 s2 q2 => k ρ2 σ2 R2 (l2.trans l1) (fun i hi => ?_) q2⟩⟩
          simp only [Tgs.ss, List.mem_append, not_or] at hi
          exact (s2 i hi.2).trans (s1 i hi.1)
end
end
end DL
namespace DL
open PySem PySem.Spec L2
structure WalkR (K : PySem.W.Frag) (H0 : Hp) (J : It) (items : List D) (G : Mm → Prop) : Prop where
  ex : ∃ GH Y, Walk J items.length GH Y ∧ (∀ M H, TX H0 H → RelM K M H → G M → GH H) ∧
    ∀ i H x H' d, TX H0 H → items[i]? = some d → Y i H x H' → TX H H' ∧ (∀ M, RelM K M H → RelM K M H') ∧ (∀ a o, H a = some o → H' a = some o) ∧ Rep K H' d x
def liftI (K : PySem.W.Frag) (W : WX) (ti : DEnv → Mm → EK → (List D → (Mm → Prop) → Mm → Prop) → Prop) : TI := fun σ H R => ∃ ρ M E Qd, Rel K ρ M σ H ∧ ti ρ M E Qd ∧
  (∀ items G M' J H', TX H H' → Rel K ρ M' σ H' → WalkR K H' J items G → Qd items G M' → R J H') ∧
  (∀ x M' cls dd H', TX H H' → Rel K ρ M' σ H' → RelX K H' x cls dd → E x M' → W cls dd σ H')
def iSeq (K : PySem.W.Frag) (tl : TE) : TI := fun σ H R => tl σ H fun x H1 => ∃ a, x = .ref a ∧ (((∃ xs, SqL K H1 a xs) ∧ R (Itl K a) H1) ∨ ((∃ xs, SqT K H1 a xs) ∧ R (Itt K a) H1))
theorem PI.imp {X : Cx} {tg e : Expr} {t t' : TI} (h : PI X tg e t) (i : ∀ σ H Q, t' σ H Q → t σ H Q) : PI X tg e t' := ⟨fun pins s σ H Q I q => h.run pins s σ H Q I (i σ H Q q)⟩
theorem pi_seq {X : Cx} {tg l : Expr} {tl : TE} (hl : PE X l tl) : PI X tg l (iSeq X.K tl) := by
  refine ⟨fun pins s σ H R I h => ?_⟩
  refine thn (hl.run pins s σ H _ I h) fun v s1 w => ?_
  obtain ⟨x, H1, I1, r1, a, e, q⟩ := w
  subst e
  cases r1
  have hb : ∀ b ∈ [s1.heap.objs.size], FpOk X pins H1 b := fun b hb => by
    have e : b = s1.heap.objs.size := by simpa using hb
    rw [e]
    exact I1.fpOk (Nat.le_refl _) (I1.hok.fresh (Nat.le_refl _))
  rcases q with ⟨⟨xs, hq⟩, q⟩ | ⟨⟨xs, hq⟩, q⟩
  · obtain ⟨its, rv, p, hz⟩ := I1.list hq
    exact wpAny_pyIter_list p.isList ⟨s1.heap.objs.size, [s1.heap.objs.size], _, _, H1, rfl, I1.kept (t' := s1.toks) (fun b o e => Heap.get?_push_of_some _ e), turn_list a _, ⟨_, Heap.get?_push_size _ rfl, rfl, rfl⟩, hb, q⟩
  · obtain ⟨its, rv, p, hz⟩ := I1.tuple hq
    exact wpAny_pyIter_tuple (show s1.heap.IsTuple a its.toArray from p) ⟨s1.heap.objs.size, [s1.heap.objs.size], _, _, H1, rfl, I1.kept (t' := s1.toks) (fun b o e => Heap.get?_push_of_some _ e), turn_tuple a _, ⟨_, Heap.get?_push_size _ rfl, rfl, rfl⟩, hb, q⟩
section
variable {K : PySem.W.Frag} {H0 : Hp} {a b : Addr} {xs ys : List V} {ds es : List D}
theorem rep_at {H : Hp} {i : Nat} {d : D} {x : V} (r : Reps K H ds xs) (h : ds[i]? = some d) (hx : xs[i]? = some x) : Rep K H d x := by
  obtain ⟨v, a, q⟩ := r.get h
  rw [hx] at a; cases a
  exact q
abbrev GL (K : PySem.W.Frag) (a : Addr) (ds : List D) : Hp → Prop := fun H => ∃ vs, SqL K H a vs ∧ Reps K H ds vs
theorem get_lt {H : Hp} {i : Nat} {vs : List V} (r : Reps K H ds vs) (h : i < ds.length) : ∃ x, vs[i]? = some x := ⟨vs[i]'(by rw [← r.length]; exact h), by simp⟩
theorem walkR_list : WalkR K H0 (Itl K a) ds (fun M => M a = some (.lst ds) ∨ M a = some (.rol ds)) := by
  refine ⟨GL K a ds, fun i H x H' => H' = H ∧ ∃ vs, SqL K H a vs ∧ Reps K H ds vs ∧ vs[i]? = some x, ⟨?_, ?_, ?_⟩, ?_, ?_⟩
  · rintro i H hi ⟨vs, s, r⟩
    obtain ⟨x, hx⟩ := get_lt r hi
    exact ⟨vs, x, s, hx⟩
  · rintro H ⟨vs, s, r⟩
    exact ⟨vs, s, by rw [r.length]; exact Nat.le_refl _⟩
  · rintro i H x H' hi ⟨vs, s, r⟩ ⟨e, y⟩
    exact ⟨e, vs, s, r, y vs s⟩
  · intro M H _ m h
    exact m.sq h
  · rintro i H x H' d _ hd ⟨rfl, vs, s, r, hx⟩
    exact ⟨TX.refl _, fun _ m => m, fun _ _ h => h, rep_at r hd hx⟩
theorem walkR_tup (r0 : Reps K H0 ds xs) (s0 : SqT K H0 a xs) : WalkR K H0 (Itt K a) ds (fun _ => True) := by
  refine ⟨fun H => TX H0 H, fun i H x H' => H' = H ∧ TX H0 H ∧ xs[i]? = some x, ⟨?_, ?_, ?_⟩, fun M H e _ _ => e, ?_⟩
  · rintro i H hi e
    obtain ⟨x, hx⟩ := get_lt r0 hi
    exact ⟨xs, x, e.sq s0, hx⟩
  · rintro H e
    exact ⟨xs, e.sq s0, by rw [r0.length]; exact Nat.le_refl _⟩
  · rintro i H x H' hi e ⟨e1, y⟩
    exact ⟨e1, e, y xs (e.sq s0)⟩
  · rintro i H x H' d _ hd ⟨rfl, e, hx⟩
    exact ⟨TX.refl _, fun _ m => m, fun _ _ h => h, rep_at (r0.mono e) hd hx⟩
theorem rngD_len (lo : Int) (n : Nat) : (rngD lo n).length = n := by simp [rngD]
theorem rngD_get {lo : Int} {n i : Nat} {d : D} (h : (rngD lo n)[i]? = some d) : d = .int (lo + i) := by
  unfold rngD at h
  rw [List.getElem?_map] at h
  cases q : (List.range n)[i]? with
  | none => rw [q] at h; cases h
  | some j =>
    rw [q] at h
    obtain ⟨hj, e⟩ := List.getElem?_eq_some_iff.mp q
    simp at e
    subst e
    exact (Option.some.inj h).symm
theorem walkR_rngC {lo c : Int} {n : Nat} : WalkR K H0 (Itc lo c n) (rngC lo c n) (fun _ => True) := by
  have ln : (rngC lo c n).length = n := by simp [rngC]
  refine ⟨fun _ => True, fun i H x H' => H' = H ∧ x = .int (lo + (i : Nat) * c), ⟨?_, ?_, ?_⟩, fun _ _ _ _ _ => trivial, ?_⟩
  · intro i H hi _; rw [ln] at hi; exact hi
  · intro H _; rw [ln]; exact Nat.le_refl _
  · intro i H x H' _ _ y; exact y
  · rintro i H x H' d _ hd ⟨rfl, rfl⟩
    have e : d = .int (lo + (i : Nat) * c) := by
      unfold rngC at hd
      rw [List.getElem?_map] at hd
      cases q : (List.range n)[i]? with
      | none => rw [q] at hd; cases hd
      | some j =>
        rw [q] at hd
        obtain ⟨hj, e⟩ := List.getElem?_eq_some_iff.mp q
        simp at e
        subst e
        exact (Option.some.inj hd).symm
    rw [e]
    exact ⟨TX.refl _, fun _ m => m, fun _ _ h => h, .int _⟩
theorem walkR_rng {lo : Int} {n : Nat} : WalkR K H0 (Itr lo n) (rngD lo n) (fun _ => True) := by
  refine ⟨fun _ => True, fun i H x H' => H' = H ∧ x = .int (lo + i), ⟨?_, ?_, ?_⟩, fun _ _ _ _ _ => trivial, ?_⟩
  · intro i H hi _; rw [rngD_len] at hi; exact hi
  · intro H _; rw [rngD_len]; exact Nat.le_refl _
  · intro i H x H' _ _ y; exact y
  · rintro i H x H' d _ hd ⟨rfl, rfl⟩
    rw [rngD_get hd]
    exact ⟨TX.refl _, fun _ m => m, fun _ _ h => h, .int _⟩
theorem enmD_len : ∀ (k : Nat) (ds : List D), (enmD k ds).length = ds.length
  | _, [] => rfl
  | k, d :: ds => by simp [enmD, enmD_len (k + 1) ds]
theorem enmD_get : ∀ {k : Nat} {ds : List D} {i : Nat} {d : D}, (enmD k ds)[i]? = some d → ∃ e, ds[i]? = some e ∧ d = .tup [.int (k + i : Nat), e]
  | _, [], _, _, h => by simp [enmD] at h
  | k, d :: ds, 0, x, h => by simp [enmD] at h; exact ⟨d, rfl, by rw [← h]; simp⟩
  | k, d :: ds, i + 1, x, h => by
    simp only [enmD, List.getElem?_cons_succ] at h
    obtain ⟨e, h1, h2⟩ := enmD_get h
    refine ⟨e, by simpa using h1, ?_⟩
    rw [h2, show k + 1 + i = k + (i + 1) by omega]
theorem pair_new {H : Hp} {T : Addr} {x y : V} {d e : D} (hT : H T = none) (r1 : Rep K H d x) (r2 : Rep K H e y) :
    TX H (upd H T (.tup [x, y])) ∧ (∀ M, RelM K M H → RelM K M (upd H T (.tup [x, y]))) ∧ (∀ a o, H a = some o → upd H T (.tup [x, y]) a = some o) ∧ Rep K (upd H T (.tup [x, y])) (.tup [d, e]) (.ref T) :=
  ⟨TX.new hT, fun M m => m.new hT, fun a o h => by rw [upd_ne (ne_of_none h hT)]; exact h, .tup (SqT.of upd_same) (.cons (r1.mono (TX.new hT)) (.cons (r2.mono (TX.new hT)) .nil))⟩
theorem zipD_len : ∀ (ds es : List D), (zipD ds es).length = min ds.length es.length
  | [], _ => by simp [zipD]
  | _ :: _, [] => by simp [zipD]
  | d :: ds, e :: es => by simp [zipD, zipD_len ds es]
theorem zipD_get : ∀ {ds es : List D} {i : Nat} {d : D}, (zipD ds es)[i]? = some d → ∃ x y, ds[i]? = some x ∧ es[i]? = some y ∧ d = .tup [x, y]
  | [], _, _, _, h => by simp [zipD] at h
  | _ :: _, [], _, _, h => by simp [zipD] at h
  | d :: ds, e :: es, 0, x, h => by simp [zipD] at h; exact ⟨d, e, rfl, rfl, h.symm⟩
  | d :: ds, e :: es, i + 1, x, h => by
    simp only [zipD, List.getElem?_cons_succ] at h
    obtain ⟨x, y, h1, h2, h3⟩ := zipD_get h
    exact ⟨x, y, by simpa using h1, by simpa using h2, h3⟩
end
end DL
namespace DL
open PySem PySem.Spec L2
theorem Good.blk {CX : CXT} {X : Cx} {T : Tb} {Γ : Gm} {W : WX} {lv : Nat} (G : Good CX X T Γ W lv) (hcm : T.calm = true) (s : Shared) (H : Hp) (scope : Scope) (C : Addr) (cl : List (Str × Addr)) (fp : List Addr) :
    Good CX (X.blk s H scope (compEnvC scope cl C X.env) fp) (T.blk scope) Γ W0 lv where
  n := G.n
  nd := G.nd
  calm := fun _ => G.calm hcm
  sc := by
    show relabel scope X.env = relS scope T.sc
    unfold relabel relS PySem.Env.kindOf
    rw [G.sc]
  room := fun _ => G.room hcm
  hu := (G.room hcm).units
  fn := ⟨fun h => (by cases h), fun x hx => (List.mem_filter.mp hx).2⟩
  xn := G.xn
  gcd := G.gcd
  glob := G.glob
  fld := G.fld
  kwc := G.kwc
  mt := G.mt
  pr := G.pr
  isi := G.isi
  nf := G.nf
  kwm := G.kwm
  xfl := G.xfl
  sub := G.sub
  exn := fun z => absurd (show T.calm = false from z) (by rw [hcm]; decide)
  pass := fun σ pins H' s' e s'' _ c => absurd c (G.cx0 _ _ _ _ _)
  cx0 := G.cx0
section
variable {CX : CXT} {Γ : Gm} {lv : Nat}
theorem wipe_at (τ : St) (vs : List Nat) : ∀ (i : Nat), (wipe τ vs)[i]? = if i ∈ vs then (if i < τ.length then some none else none) else τ[i]? := by
  induction vs with
  | nil => intro i; simp [wipe]
  | cons v vs ih =>
    intro i
    unfold wipe
    by_cases hi : v = i
    · subst hi
      rw [if_pos List.mem_cons_self, List.getElem?_set_self', ih]
      by_cases hv : v < τ.length
      · rw [if_pos hv]
        by_cases hm : v ∈ vs
        · rw [if_pos hm]; rfl
        · rw [if_neg hm]; simp [hv]
      · rw [if_neg hv]
        by_cases hm : v ∈ vs
        · rw [if_pos hm]; rfl
        · rw [if_neg hm, List.getElem?_eq_none (by omega)]; rfl
    · rw [List.getElem?_set_ne hi, ih]
      simp [Ne.symm hi]
theorem wipe_ext {σ σ' : St} (hl : σ'.length = σ.length) (vs : List Nat) (h : ∀ i, i ∉ vs → σ'[i]? = σ[i]?) : wipe σ' vs = wipe σ vs := by
  apply List.ext_getElem?
  intro i
  rw [wipe_at, wipe_at, hl]
  by_cases hi : i ∈ vs
  · rw [if_pos hi, if_pos hi]
  · rw [if_neg hi, if_neg hi, h i hi]
theorem wipe_back {σ σ2 : St} {vs ss : List Nat} (hs : ∀ i ∈ ss, i ∈ vs) (hl : σ2.length = (wipe σ vs).length) (h : ∀ i, i ∉ ss → σ2[i]? = (wipe σ vs)[i]?) : wipe σ2 vs = wipe σ vs := by
  refine wipe_ext (hl.trans (wipe_length σ vs)) vs fun i hi => ?_
  rw [h i fun z => hi (hs i z), wipe_at, if_neg hi]
theorem wipe_rel {K : PySem.W.Frag} {H : Hp} {ρ : DEnv} {σ : St} (r : RelE K H ρ σ) : ∀ vs, RelE K H (wipeD ρ vs) (wipe σ vs)
  | [] => r
  | v :: vs => by
    have q := wipe_rel r vs
    refine ⟨by simp [wipe, wipeD, q.len], fun i d h => ?_⟩
    unfold wipeD at h
    unfold wipe
    by_cases hi : v = i
    · subst hi
      rw [List.getElem?_set_self'] at h
      cases z : (wipeD ρ vs)[v]? with
      | none => rw [z] at h; cases h
      | some _ => rw [z] at h; cases h
    · rw [List.getElem?_set_ne hi] at h ⊢
      exact q.at_ i d h
theorem comp_ok {K : PySem.W.Frag} {H0 : Hp} {J : It} {items : List D} {G : Mm → Prop} (w : WalkR K H0 J items G) {g : TG} {tt : TT} {te : TE} {own : List Nat} {σ : St} {ρ : DEnv} {M0 : Mm} {p : Addr} {Qd : Hp → Prop} {Qm : Mm → Prop}
    {step : D → Mm → (Option D → Mm → Prop) → Prop}
    (R : Rel K ρ M0 σ H0) (hp : H0 p = none) (h : compL G p step items [] (M0.put p (.lst [])) Qm) (fin : ∀ (M : Mm) (H : Hp), TX H0 H → RelM K M H → Qm M → Qd H)
    (turn : ∀ (d : D) (x : V) (M : Mm) (H H' : Hp) (Kk : Option D → Mm → Prop) (Nx : Option V → Hp → Prop), TX H0 H' → RelM K M H' → Rep K H' d x → step d M Kk →
      (∀ (r : Option D) (M' : Mm) (v : Option V) (H'' : Hp), TX H0 H'' → RelM K M' H'' → (match r, v with | none, none => True | some d, some v => Rep K H'' d v | _, _ => False) → Kk r M' → Nx v H'') →
      g x (wipe σ own) H' fun σ2 H2 => wipe σ2 own = wipe σ own ∧ tt σ2 H2 fun b H3 => if b = true then te σ2 H3 fun y H4 => Nx (some y) H4 else Nx none H3) :
    ∃ W : Nat → Nat → Hp → Prop, (∃ m, W 0 m (upd H0 p (.lst []))) ∧ ∀ i m H, W i m H →
      (J.stop i H ∧ Qd H) ∨ (J.go i H ∧ ∃ Nx : Hp → Prop, (∀ H', Nx H' → ∃ m', m' < m ∧ W (i + 1) m' H') ∧ ∀ x H', J.yld i H x H' → g x (wipe σ own) H' fun σ2 H2 => wipe σ2 own = wipe σ own ∧ tt σ2 H2 fun b H3 =>
        if b = true then te σ2 H3 fun y H4 => ∃ acc, H4 p = some (.lst acc) ∧ acc.length < sizeLine ∧ Nx (upd H4 p (.lst (acc ++ [y]))) else Nx H3) := by
  obtain ⟨GH, Y, wk, hG, hY⟩ := w.ex
  let Pv : Nat → Hp → Prop := fun i H => TX H0 H ∧ ∃ acc M, RelM K M H ∧ compL G p step (items.drop i) acc M Qm
  refine ⟨fun i m H => m = items.length - i ∧ i ≤ items.length ∧ Pv i H, ⟨_, rfl, Nat.zero_le _, TX.new hp, [], _, R.mem.newL hp .nil, by rw [List.drop_zero]; exact h⟩, ?_⟩
  rintro i m H ⟨rfl, hi, e, acc, M, mm, c⟩
  by_cases hlt : i < items.length
  · have hd : items.drop i = items[i] :: items.drop (i + 1) := List.drop_eq_getElem_cons hlt
    rw [hd] at c
    simp only [compL] at c
    obtain ⟨cg, c⟩ := c
    have gh := hG M H e mm cg
    refine .inr ⟨wk.goes i H hlt gh, Pv (i + 1), fun H' p' => ⟨items.length - (i + 1), by omega, rfl, hlt, p'⟩, fun x H' y => ?_⟩
    obtain ⟨e1, k1, _, rx⟩ := hY i H x H' items[i] e (by simp [hlt]) (wk.yields i H x H' hlt gh y)
    have T := turn items[i] x M H H' _ (fun v H'' => match v with
      | some y => ∃ acc, H'' p = some (.lst acc) ∧ acc.length < sizeLine ∧ Pv (i + 1) (upd H'' p (.lst (acc ++ [y])))
      | none => Pv (i + 1) H'') (e.trans e1) (k1 M mm) rx c fun r M' v H'' e2 m2 rv q => ?_
    · exact T
    · match r, v, rv, q with
      | none, none, _, q => exact ⟨e2, acc, M', m2, q⟩
      | some d, some v, rv, q =>
        obtain ⟨q1, q2, q3⟩ := q
        obtain ⟨vs, h1, h2⟩ := m2 _ _ q1
        exact ⟨vs, h1, by rw [← h2.length]; exact q2, e2.trans (TX.put h1 (fun _ z => by cases z) (fun _ _ z => by cases z)), acc ++ [d], _, m2.putL h1 (h2.append (.cons rv .nil)), q3⟩
  · have ei : i = items.length := by omega
    subst ei
    rw [List.drop_length] at c
    simp only [compL] at c
    exact .inl ⟨wk.stops H (hG M H e mm c.1), fin M H e mm c.2.2⟩
end
end DL
namespace DL
section
open PySem PySem.W PySem.Spec PySem.Calls PyProof.Rows
variable {prog : Program} {w : World} {A : Around} {E : Value → Shared → Prop} {s : Shared} {K : Frag} {x D : Addr} {ox : Obj} {od : Option Obj}
theorem findE (T : L2.ExcC K D) : findObj K D od "__class__" = some (.bind (.builtin "getset_descriptor.__get__") (.builtin "object.__class__")) := by
  cases od with
  | some o => exact findObj_data (by obtain ⟨cd, hc, _⟩ := any_some T.hd; rw [hc] <;> rfl) T.ha T.hn T.ht
  | none => exact findObj_dataN (by obtain ⟨cd, hc, _⟩ := any_some T.hd; rw [hc] <;> rfl) T.ha T.hn T.ht
theorem kinE {Q : Option Value → Shared → Prop} (T : L2.ExcC K D) (X : K.In s.heap) (I : InstAt s.heap x ox D od) (h : Q (some (.ref D)) { s with toks := s.toks + 1 }) : wpAny (model prog w) A (getAttr? (.ref x) "__class__") Q E s := by
  have hf := findE (od := od) T
  obtain ⟨hp, g, d, t, os⟩ := s
  have l0 := I.type (M := model prog w); have l1 := looks_findIn (M := model prog w) X T.hg
  have l2 := looks_findIn (M := model prog w) X T.hk; have l3 := looks_find (M := model prog w) X I hf
  have sub : Looks (model prog w) hp (isInstance (.ref x) (.type "BaseException")) true := (l0.andThen (looks_subIn X T.hs))
  have q2 : (Value.builtin "BaseException.__getattribute__" == Value.builtin "object.__getattribute__") = false := by decide +kernel
  have q1 : (onTheHeap (Value.ref D) && Value.builtin "BaseException.__getattribute__" == Value.builtin "object.__getattribute__") = false := by rw [q2]; rfl
  unfold getAttr? getAttrBy? getAttrBy
  refine wpAny_bind (wpAny_mkText (wpAny_bind (wpAny_attempt (wpAny_holding (wpAny_bind (l0.at (wpAny_bind (l1.at ?_))))))))
  show wpAny _ _ (if ((onTheHeap (Value.ref D) && Value.builtin "BaseException.__getattribute__" == Value.builtin "object.__getattribute__")) = true then _ else _) _ _ _
  rw [q1, if_neg Bool.false_ne_true]; unfold getAttrByItsOwn hookBefore
  refine wpAny_bind ?_; rw [if_pos (show onTheHeap (Value.ref D) = true from rfl)]
  refine l2.at ?_; refine wpAny_bind (wpAny_attempt (wpAny_holding ?_)); unfold callGetattribute
  rw [show (false && onTheHeap (Value.builtin "BaseException.__getattribute__")) = false from rfl, if_neg Bool.false_ne_true]; unfold boundAndCalled
  rw [PySem.F.excAttr_ValueError.ga.bind (.ref x)]; refine wpAny_bind (wpAny_pure ?_)
  show wpAny _ _ (call (.builtin "BaseException.__getattribute__") [(.ref x), .str "__class__" t]) _ _ _
  refine wpAny_call (codeAny_call_builtin PySem.F.excAttr_ValueError.ga.plain (PySem.F.entry_bexc_ga) ?_)
  refine @check_slot (model prog w) _ _ ⟨hp, g, d, t + 1, os⟩ "BaseException.__getattribute__" "BaseException" "__getattribute__" (.ref x) [(.str "__class__" t)] [] _ (by decide +kernel) (by decide +kernel) sub (PySem.F.args_bexc_ga (.ref x) (.str "__class__" t)) ?_
  unfold Builtin.«object.__getattribute__»
  refine wpAny_bind (wpAny_of_eq (a := ((Value.ref x : Value), [Value.str "__class__" t])) (by first | rfl | (simp only [slotArgs] <;> rfl)) ?_)
  refine wpAny_bind (wpAny_pure (wpAny_bind (l0.at (wpAny_bind (l3.at ?_)))))
  show wpAny _ _ (holding [(Value.builtin "object.__class__")] (call (.builtin "getset_descriptor.__get__") [.builtin "object.__class__", .ref x, .ref D]) >>= ret) _ _ _
  refine wpAny_bind (wpAny_holding (wpAny_call (class_get (s := ⟨hp, g, d, t + 1, os⟩) (ox := ox) (od := od) X I T.hm ?_)))
  refine wpAny_pure ?_; show wpAny _ _ (handedOut (.ref D)) _ _ _
  rw [handedOut_of (v := .ref D) (by rfl)]
  first | exact (wpAny_pure (wpAny_pure h)) | exact (wpAny_pure h) | exact (wpAny_pure (wpAny_bind (wpAny_pure (wpAny_pure h))))
theorem kitE (T : L2.ExcC K D) : KitX K (.ref x) (.ref D) (fun h => ∃ od, InstAt h x ox D od) where
  ty := fun _ _ _ ⟨_, I⟩ => I.type
  it := fun _ _ X _ => by
    obtain ⟨cdD, hcD, _⟩ := any_some T.hd
    unfold clsIn at hcD; split at hcD
    · rename_i c' d' cd' sl' ho
      intro A' Q' E' s' k q; unfold isType loadHead
      exact (wpAny_bind (wpAny_loadPart (k _ _ (X _ _ ho)) (wpAny_pure q)))
    · cases hcD
  ne := fun h tp dd its n sl X htp => by
    obtain ⟨cdD, hcD, _⟩ := any_some T.hd
    refine Bool.eq_false_iff.mpr fun q => ?_
    have e : D = tp := Value.ref.inj (beq_iff_eq.mp q)
    subst e; unfold clsIn at hcD; split at hcD
    · rename_i c' d' cd' sl' ho
      have z := (X _ _ ho).symm.trans htp; cases z
    · cases hcD
  ca := fun X ⟨_, I⟩ k => kinE T X I k
end
open PySem PySem.Spec L2
theorem call_isX {X : Cx} {a D : Addr} {dx : Option Addr} {oe : Obj} {pn : List (Addr × Obj)} (C : ExcC X.K D) (hz : Zc (.ref D) dx oe) (hf : ∃ vs, oe.data = .fields vs) :
    CallR (X.suite a ((a, oe) :: pn)) (.builtin "isinstance") (fun xs H Q => (∀ dd, dx = some dd → ∃ fs, H dd = some (.xd fs)) ∧ rIsE X.K D a xs H Q) := by
  intro pins s σ H xs us Q I r h
  obtain ⟨hdx, c, cv, b, rfl, hcv, e, q⟩ := h
  cases r with
  | cons rx rr =>
    cases rr with
    | cons rt rr =>
      cases rr
      cases rx
      have ec := hcv _ rt
      subst ec
      obtain ⟨hget, _⟩ := I.pin (a, oe) (List.mem_append.mpr (.inl List.mem_cons_self))
      obtain ⟨vs, hv⟩ := hf
      have J : ∃ od, PySem.W.InstAt s.heap a oe D od := by
        obtain ⟨oc, od, oda, osl⟩ := oe
        obtain ⟨h1, h2⟩ := hz
        dsimp only at h1 h2 hv
        subst h1 h2 hv
        cases od with
        | none => exact ⟨none, hget, rfl, rfl, trivial⟩
        | some dd =>
          obtain ⟨fs, hx⟩ := hdx dd rfl
          have hx : ObjOk X.prog X.w H s.heap dd (.xd fs) := I.hok dd _ hx
          obtain ⟨mA, hns, hr⟩ := hx
          obtain ⟨o, ho, hl⟩ := L2.lookIn_ns hns
          exact ⟨some o, hget, rfl, rfl, ho⟩
      exact PySem.W.kia_one (kitE C) I.kIn J e (fun z => nomatch z) fun tk => ⟨.bl b, H, I.kept (t' := tk) fun _ _ z => z, rfl, q⟩
section
variable {CX : CXT} {X : Cx} {T : Tb} {Γ : Gm} {W : WX} {lv : Nat}
theorem xis_ok (G : Good CX X T Γ W lv) {g : Nat} {ta : TD} {a' : Expr} {y : Str} {p py pos : Pos} (ha : PE X a' (lift X.K W ta)) (hst : ∀ es, starEach (a' :: es) X.env = (false, eval a' X.env) :: starEach es X.env)
    (hcm : T.calm = false) (hxn : T.xn.contains ("isinstance" : Str) = true) (hgx : Gl X "isinstance") (hgn : (match T.gn[g]? with | some (z, _) => decide (y = z) | _ => false) = true) (hgy : Gl X y) (hpl : (y == ("__debug__" : Str)) = false) :
    PE X (.Call (.Name "isinstance" p) [a', .Name y py] [] pos) (lift X.K W (fun ρ M E Q => ta ρ M E fun x M1 => xisD Γ g x M1 Q)) := by
  have nm : X.mg "isinstance" = none := G.xn _ (by simpa using hxn)
  have dead : (∀ x M1 Q, ¬ xisD Γ g x M1 Q) → PE X (.Call (.Name "isinstance" p) [a', .Name y py] [] pos) (lift X.K W (fun ρ M E Q => ta ρ M E fun x M1 => xisD Γ g x M1 Q)) := fun hd => by
    have A := pa_cons ha (pa_cons (PE.never (e := .Name y py) (t := fun _ _ _ => False) fun _ _ _ h => h) pa_nil rfl) (hst _)
    refine PE.imp (pe_callB (id := "isinstance") (r := fun _ _ _ => False) (fun _ _ _ _ _ _ _ _ _ h => h.elim) hgx nm (by decide +kernel) A (by decide) (by decide) (hst _) rfl) fun σ H Q q => ?_
    obtain ⟨ρ, M, E, Qd, R, t, k, x⟩ := q
    exact ⟨ρ, M, E, _, R, t, fun d M1 v H1 e1 R1 r1 t1 => absurd t1 (hd _ _ _), x⟩
  cases hgg : T.gn[g]? with
  | none => rw [hgg] at hgn; cases hgn
  | some zo =>
    obtain ⟨z, o⟩ := zo
    rw [hgg] at hgn
    have hyz : y = z := by simpa using hgn
    subst hyz
    have go := G.glob g y o hgg
    cases hcl : (Γ.gv g).clsOf with
    | none => exact dead fun x M1 Q h => by unfold xisD at h; rw [hcl] at h; split at h <;> first | (rename_i z; cases z; done) | exact h | contradiction
    | some C' =>
      have hm : X.mg y = some (.ref C') := by
        cases gv : Γ.gv g with
        | fn n sp dfl => rw [gv] at hcl; cases hcl
        | val d => rw [gv] at hcl; cases hcl
        | err C fs tx =>
          rw [gv] at hcl go; cases hcl
          cases o with
          | none => exact go.1
          | some nk => exact go.elim
        | cls C =>
          rw [gv] at hcl go; cases hcl
          cases o with
          | none => exact go
          | some nk => exact go.elim
        | cla C i => rw [gv] at hcl; cases hcl
      cases hx : Γ.exn with
      | none => exact dead fun x M1 Q h => by unfold xisD at h; rw [hx] at h; split at h <;> first | contradiction | exact h
      | some q =>
        obtain ⟨b, C, dx⟩ := q
        cases hsb : Γ.sub C C' with
        | none =>
          refine dead fun x M1 Q h => ?_
          unfold xisD at h
          rw [hx, hcl] at h
          cases x <;> first | exact h | (obtain ⟨_, _, k, h, _⟩ := h; rw [hsb] at h; cases h)
        | some kk =>
          obtain ⟨Y, oe, pn, rfl, hz, hf⟩ := G.exn hcm b C dx hx
          obtain ⟨hC, hk, _⟩ := G.sub _ _ _ hsb
          have A := pa_cons ha (pa_cons (pe_glob (pos := py) (v := .ref C') hgy hm rfl hpl) pa_nil rfl) (hst _)
          refine PE.imp (pe_callB (id := "isinstance") (call_isX hC hz hf) hgx nm (by decide +kernel) A (by decide) (by decide) (hst _) rfl) fun σ H Q q => ?_
          refine lift1 (r := fun x H1 Q => (∀ dd, dx = some dd → ∃ fs, H1 dd = some (.xd fs)) ∧ rIsE Y.K C b [x, .ref C'] H1 Q) (rd := fun x M1 E Q => xisD Γ g x M1 Q) q fun d v M1 H1 ρ E Qd R r1 t k x => ?_
          unfold xisD at t
          rw [hx, hcl] at t
          cases d <;> try (exact t.elim)
          cases r1
          obtain ⟨rfl, hdd, k2, e2, t⟩ := t
          rw [hsb] at e2
          cases e2
          refine ⟨fun dd e => ?_, .ref C', .ref C', kk, rfl, fun u r => r, hk, k _ _ _ _ (TX.refl _) R (.bl kk) t⟩
          obtain ⟨fs, hfs⟩ := hdd dd e
          obtain ⟨vfs, h4, _⟩ := R.mem _ _ hfs
          exact ⟨vfs, h4⟩
end
theorem Reps.rev {K : PySem.W.Frag} {H : Hp} : ∀ {ds : List D} {vs : List V}, Reps K H ds vs → Reps K H ds.reverse vs.reverse
  | _, _, .nil => .nil
  | _, _, .cons r t => by
    rw [List.reverse_cons, List.reverse_cons]
    exact (Reps.rev t).append (.cons r .nil)
theorem strsD_eq {K : PySem.W.Frag} {H : Hp} : ∀ {ds : List D} {ns : List Str} {vs : List V}, strsD ds = some ns → Reps K H ds vs → vs = ns.map V.str
  | [], ns, vs, h, r => by cases r; simp only [strsD, Option.some.injEq] at h; subst h; rfl
  | d :: ds, ns, vs, h, r => by
    cases d <;> simp only [strsD] at h <;> try (cases h; done)
    rename_i i
    cases q : strsD ds with
    | none => rw [q] at h; cases h
    | some ms =>
      rw [q] at h; cases h
      cases r with
      | cons a b => cases a; rw [strsD_eq q b]; rfl
def liftJ (K : PySem.W.Frag) (W : WX) (td : DEnv → Mm → EK → (Str → Mm → Prop) → Prop) : St → Hp → (Str → Hp → Prop) → Prop := fun σ H Q => ∃ ρ M E Qd, Rel K ρ M σ H ∧ td ρ M E Qd ∧
  (∀ out M' H', TX H H' → Rel K ρ M' σ H' → Qd out M' → Q out H') ∧
  (∀ x M' cls dd H', TX H H' → Rel K ρ M' σ H' → RelX K H' x cls dd → E x M' → W cls dd σ H')
theorem smt_imp {K : PySem.W.Frag} {W : WX} {ta te : TD} {m : Sme} {r : V → List V → Hp → VK → Prop} {σ : St} {H : Hp} {Q : VK}
    (q : lift K W (fun ρ M E Q => ta ρ M E fun x M1 => (∃ z, x = .str z) ∧ te ρ M1 E fun y M2 => smtD m x y M2 Q) σ H Q)
    (f : ∀ x y v u M2 H2, RelM K M2 H2 → Rep K H2 x v → Rep K H2 y u → ∀ (Q' : VK) (Qd : QD), smtD m x y M2 Qd → (∀ {d : D} (v : V), Rep K H2 d v → Qd d M2 → Q' v H2) → r v [u] H2 Q') : tM1 r (lift K W ta) (lift K W te) σ H Q := by
  obtain ⟨ρ, M, E, Qd, R, t, k, x⟩ := q
  refine ⟨ρ, M, E, _, R, t, fun d M1 v H1 e1 R1 r1 t1 => ?_, x⟩
  obtain ⟨⟨z, rfl⟩, t1⟩ := t1
  have e : v = .str z := by cases r1; rfl
  refine ⟨⟨z, e⟩, ρ, M1, E, _, R1, t1, fun y M2 u H2 e2 R2 r2 t2 => ?_, fun x' M' c dd H' e' => x x' M' c dd H' (e1.trans e')⟩
  exact f _ _ _ _ M2 H2 R2.mem (r1.mono e2) r2 Q Qd t2 fun v r q => k _ _ _ _ (e1.trans e2) R2 r q
theorem PK.imp {X : Cx} {e : List Keyword} {t t' : TA} (h : PK X e t) (i : ∀ σ H Q, t' σ H Q → t σ H Q) : PK X e t' := ⟨fun pos pins s σ H Q I q => h.run pos pins s σ H Q I (i σ H Q q)⟩
theorem kw_all (pos : Pos) (env : PySem.Env) : ∀ {kws : List Keyword} {ks : List Str}, kws.map (·.arg) = ks.map some → (backToKw pos (keywordEach kws env)).all (·.1.isSome) = true ∧ (backToKw pos (keywordEach kws env)).filterMap (·.1) = ks ∧ (backToKw pos (keywordEach kws env)).any (·.1.isNone) = false
  | [], [], _ => ⟨rfl, rfl, rfl⟩
  | [], _ :: _, h => by cases h
  | _ :: _, [], h => by cases h
  | ⟨a, v, p⟩ :: kws, k :: ks, h => by
    simp only [List.map_cons, List.cons.injEq] at h
    obtain ⟨rfl, h⟩ := h
    obtain ⟨a1, a2, a3⟩ := kw_all pos env h
    have e : backToKw pos (keywordEach (⟨some k, v, p⟩ :: kws) env) = (some k, (do let v ← eval v env; standAt pos; pure v)) :: backToKw pos (keywordEach kws env) := rfl
    rw [e]
    refine ⟨?_, ?_, ?_⟩
    · rw [List.all_cons, a1]; rfl
    · rw [List.filterMap_cons]; simp only []; rw [a2]
    · rw [List.any_cons, a3]; rfl
section
variable {CX : CXT} {X : Cx} {T : Tb} {Γ : Gm} {W : WX} {lv : Nat}
theorem run_kw {k np : Nat} {f : Addr} {fd : FuncData} {ps ks : List Str} {sp : Sp} {E : St → XK} {g : List Value → List Value → List Value} {gV : List V → List V → List V} {pins : List (Addr × Obj)} {σ : St} {H : Hp} {s : Shared} {Q : VK} {us ws : List Value} {vs zs : List V}
    (F : FnOk X.prog X.w X.K X.mg X.base CX k f fd ps sp) (hr : Room k X.A) (hb : KBn X.K fd ps np ks g gV) (hx : PassesAt CX X σ (E σ)) (I : Inv X pins σ H s) (r : Vals vs us) (rz : Vals zs ws) (l1 : vs.length = np) (l2 : zs.length = ks.length) (h : sp (gV vs zs) H Q (E σ)) :
    wpAny (model X.prog X.w) X.A (call (.ref f) us (ks.zip ws)) (EP X pins σ Q) X.xe s := by
  refine wpAny_call (codeAny_mono (F.run X.A X.stack s H ⟨us, ks.zip ws⟩ (g us ws) (gV vs zs) Q (E σ) hr I.env0 (hb.to s us ws I.kIn (r.length.symm.trans l1) (rz.length.symm.trans l2)) (hb.rel r rz) h) fun q s' hq => ?_)
  cases q with
  | error e => exact hx pins H s e s' I hq
  | ok fl =>
    cases fl with
    | ret u => exact I.after hq
    | next => exact hq.elim
    | brk => exact hq.elim
    | cont => exact hq.elim
theorem kw_ok (G : Good CX X T Γ W lv) (hcm : T.calm = true) {g np : Nat} {x : Str} {nk : Nat × Nat} {ks : List Str} {ta tz : TDs} {es : List Expr} {kws : List Keyword} {p pos : Pos} (hg : T.gn[g]? = some (x, some nk)) (hgl : Gl X x) (hpl : (x == ("__debug__" : Str)) = false)
    (ha : PA X es (liftA X.K W ta)) (hz : PK X kws (liftA X.K W tz)) (hks : kws.map (·.arg) = ks.map some)
    (hes : (es = [] ∧ ∀ ρ M E Q, ta ρ M E Q → Q [] M) ∨ ∃ e r, es = e :: r ∧ starEach (e :: r) X.env = (false, eval e X.env) :: starEach r X.env ∧ (starEach (e :: r) X.env).any (·.1) = false) :
    PE X (.Call (.Name x p) es kws pos) (lift X.K W fun ρ M E Q => (Γ.kwc g np ks).isSome = true ∧ ta ρ M E fun ds M1 => tz ρ M1 E fun ws M2 => kwD Γ g np ks ds ws M2 E Q) := by
  cases hk : Γ.kwc g np ks with
  | none => exact PE.never fun σ H Q ⟨ρ, M, E, Qd, R, ⟨t, _⟩, _⟩ => by simp at t
  | some pat =>
    have go := G.glob g x _ hg
    cases gv : Γ.gv g with
    | val d => rw [gv] at go; exact go.elim
    | err C fs tx => rw [gv] at go; exact go.elim
    | cls C => rw [gv] at go; exact go.elim
    | cla C i => rw [gv] at go; exact go.elim
    | fn n' sp dfl =>
      obtain ⟨f, fd, ps, gg, gV, F, hm, hkp, hb, hrel⟩ := G.kwc g x nk np ks pat n' sp dfl hg gv hk
      obtain ⟨a1, a2, a3⟩ := kw_all pos X.env hks
      have core : ∀ {pins : List (Addr × Obj)} {σ : St} {Q : VK} {ρ : DEnv} {E : EK} {Qd : QD} {M1 : Mm} {H0 H1 : Hp} {s1 : Shared} {ds : List D} {vs : List V} {us : List Value}, TX H0 H1 → Inv X pins σ H1 s1 → Rel X.K ρ M1 σ H1 → Reps X.K H1 ds vs → Vals vs us →
          (tz ρ M1 E fun ws M2 => kwD Γ g np ks ds ws M2 E Qd) → (∀ d M' v H', TX H0 H' → Rel X.K ρ M' σ H' → Rep X.K H' d v → Qd d M' → Q v H') → (∀ x M' cls dd H', TX H0 H' → Rel X.K ρ M' σ H' → RelX X.K H' x cls dd → E x M' → W cls dd σ H') →
          wpAny (model X.prog X.w) X.A (evalAll ((backToKw pos (keywordEach kws X.env)).map (·.2))) (fun ws s2 => X.K.In s2.heap ∧ wpAny (model X.prog X.w) X.A (call (.ref f) us (ks.zip ws)) (EP X pins σ Q) X.xe s2) X.xe s1 := by
        intro pins σ Q ρ E Qd M1 H0 H1 s1 ds vs us e1 I1 R1 r1 rv1 t1 kq kx
        refine wpAny_mono (hz.run pos pins s1 σ H1 (fun zs H2 => ∃ ws M2, TX H1 H2 ∧ Rel X.K ρ M2 σ H2 ∧ Reps X.K H2 ws zs ∧ kwD Γ g np ks ds ws M2 E Qd) I1 ⟨ρ, M1, E, _, R1, t1, fun ws M2 zs H2 e2 R2 r2 t2 => ⟨ws, M2, e2, R2, r2, t2⟩, fun x M' c d H' e' => kx x M' c d H' (e1.trans e')⟩) (fun us2 s2 hh => ?_) (fun _ _ z => z)
        obtain ⟨zs, H2, I2, rz, ws, M2, e2, R2, r2, t2⟩ := hh
        refine ⟨I2.kIn, ?_⟩
        unfold kwD at t2
        rw [gv, hk] at t2
        obtain ⟨l1, l2, t2⟩ := t2
        obtain ⟨rr, hl⟩ := hrel H2 ds vs ws zs l1 l2 (r1.mono e2) r2
        refine run_kw (E := WE W) F (G.room hcm) hb (G.pass σ) I2 rv1 rz (by rw [← r1.length]; exact l1) (by rw [← r2.length]; exact l2) ⟨hl, _, M2, E, Qd, R2.mem, rr, t2, fun d' M' v' H' e m r q => ?_, fun x' M' c dd H' e m rx q => ?_⟩
        · exact kq d' M' v' H' ((e1.trans e2).trans e) ⟨R2.env.mono e, m⟩ r q
        · exact kx x' M' c dd H' ((e1.trans e2).trans e) ⟨R2.env.mono e, m⟩ rx q
      refine ⟨fun pins s σ H Q I q => ?_⟩
      obtain ⟨ρ, M, E, Qd, R, ⟨_, t⟩, k, x'⟩ := q
      refine wpAny_Call_Name_kw (ld_glob I hgl hm ?_ hpl)
      rcases hes with ⟨rfl, h0⟩ | ⟨e, r, rfl, hst, hpl2⟩
      · refine PySem.W.callWith_KW0 (h₀ := X.base) I.ok.mod.kin hkp a1 ?_ (by rw [a3]; rfl)
        rw [a2]
        exact core (TX.refl H) I R .nil .nil (h0 _ _ _ _ t) k x'
      · refine PySem.W.callWith_KW (h₀ := X.base) I.ok.mod.kin hkp a1 (wpAny_mono (ha.run pos pins s σ H (fun vs H1 => ∃ ds M1, TX H H1 ∧ Rel X.K ρ M1 σ H1 ∧ Reps X.K H1 ds vs ∧ tz ρ M1 E fun ws M2 => kwD Γ g np ks ds ws M2 E Qd) I ⟨ρ, M, E, _, R, t, fun ds M1 vs H1 e1 R1 r1 t1 => ⟨ds, M1, e1, R1, r1, t1⟩, x'⟩) (fun us s1 hh => ?_) (fun _ _ z => z)) (by rw [back_any, hpl2, a3]; rfl) hst
        obtain ⟨vs, H1, I1, rv1, ds, M1, e1, R1, r1, t1⟩ := hh
        rw [a2]
        exact core e1 I1 R1 r1 rv1 t1 k x'
end
end DL
namespace DL
open PySem PySem.Spec L2
open PyProof.Rows hiding St
section
variable {X : Cx} {CX : CXT} {k : Nat} {f C : Addr} {fd : FuncData} {ps : List Str} {sp : Sp} {dvs : List V} {ds : List Value} {E : L2.St → XK} {x m : Str} {p pos apos : Pos} {e o : Expr} {es : List Expr} {t : TA} {ta : TE}
def tMakeSD (C : Addr) (sp : Sp) (dvs : List V) (E : L2.St → XK) (t : TA) : TE := fun σ H Q => t σ H fun vs H1 => ∀ x dx, H1 x = none → H1 dx = none → dx ≠ x →
  sp (.ref x :: (vs ++ dvs)) (upd (upd H1 dx (.own x)) x (.ins C dx [])) (fun v H2 => v = .non ∧ Q (.ref x) H2) (E σ)
theorem run_makeSD {pins : List (Addr × Obj)} {σ : L2.St} {H : Hp} {s : Shared} {Q : VK} {us : List Value} {vs : List V} (M : Mk X.K C f) (F : FnOk X.prog X.w X.K X.mg X.base CX k f fd ps sp) (hr : Room (k + 1) X.A) (hb : Binds X.K fd ps ds) (hd : Vals dvs ds)
    (hx : PassesAt CX X σ (E σ)) (I : Inv X pins σ H s) (r : Vals vs us)
    (h : ∀ x dx, H x = none → H dx = none → dx ≠ x → sp (.ref x :: (vs ++ dvs)) (upd (upd H dx (.own x)) x (.ins C dx [])) (fun v H2 => v = .non ∧ Q (.ref x) H2) (E σ)) :
    wpAny (model X.prog X.w) X.A (call (.ref C) us) (EP X pins σ Q) X.xe s := by
  have hq := h (s.heap.objs.size + 1) s.heap.objs.size (I.hok.fresh (Nat.le_succ _)) (I.hok.fresh (Nat.le_refl _)) (Nat.ne_of_lt (Nat.lt_succ_self _))
  have I2 := Inv.made (C := C) I
  have r2 : Vals (V.ref (s.heap.objs.size + 1) :: (vs ++ dvs)) (Value.ref (s.heap.objs.size + 1) :: (us ++ ds)) := .cons rfl (r.append hd)
  have hl : (Value.ref (s.heap.objs.size + 1) :: us ++ ds).length = ps.length := by
    have e := r2.length
    rw [F.len _ _ _ _ hq] at e
    exact e.symm
  refine wpAny_call (make_map (f := f) I.kIn M.makes M.init (beq_iff_eq.mp M.fn) (codeAny_mono (F.run _ X.stack _ _ ⟨Value.ref (s.heap.objs.size + 1) :: us, []⟩ (Value.ref (s.heap.objs.size + 1) :: (us ++ ds)) _ _ (E σ) (hr.make C us [])
    (I2.env0.make C us []) (hb _ (Value.ref (s.heap.objs.size + 1) :: us) I2.kIn hl) r2 hq) fun r s' hq' => ?_))
  cases r with
  | error e => exact hx pins _ _ e s' I2 hq'
  | ok fl =>
    cases fl with
    | ret u =>
      obtain ⟨v, H', I3, rv, ev, q3⟩ := I2.after hq'
      subst ev
      exact ⟨rv, ⟨V.ref (s.heap.objs.size + 1), H', I3, rfl, q3⟩⟩
    | next => exact False.elim hq'
    | brk => exact False.elim hq'
    | cont => exact False.elim hq'
theorem pe_makeSD (M : Mk X.K C f) (F : FnOk X.prog X.w X.K X.mg X.base CX k f fd ps sp) (hr : Room (k + 1) X.A) (hg : Gl X x) (hm : X.mg x = some (.ref C)) (hb : Binds X.K fd ps ds) (hd : Vals dvs ds) (hx : ∀ σ, PassesAt CX X σ (E σ))
    (ha : PA X (e :: es) t) (hdb : (x == ("__debug__" : Str)) = false) (h1 : starEach (e :: es) X.env = (false, eval e X.env) :: starEach es X.env) (h2 : (backTo pos (starEach es X.env)).any (·.1) = false) :
    PE X (.Call (.Name x p) (e :: es) [] pos) (tMakeSD C sp dvs E t) := by
  refine ⟨fun pins s σ H Q I h => ?_⟩
  refine wpAny_Call_Name_kw (ld_glob I hg hm ?_ hdb)
  refine PySem.W.callWith_K (h₀ := X.base) I.ok.mod.kin M.kp (thn (ha.run pos pins s σ H _ I h) fun us s1 ⟨vs, H1, I1, r, q⟩ => ⟨I1.kIn, ?_⟩) h1 h2
  exact run_makeSD M F hr hb hd (hx σ) I1 r q
theorem pe_makeSD0 (M : Mk X.K C f) (F : FnOk X.prog X.w X.K X.mg X.base CX k f fd ps sp) (hr : Room (k + 1) X.A) (hg : Gl X x) (hm : X.mg x = some (.ref C)) (hb : Binds X.K fd ps ds) (hd : Vals dvs ds) (hx : ∀ σ, PassesAt CX X σ (E σ)) (hdb : (x == ("__debug__" : Str)) = false) :
    PE X (.Call (.Name x p) [] [] pos) (tMakeSD C sp dvs E tNil) := by
  refine ⟨fun pins s σ H Q I h => ?_⟩
  refine wpAny_Call_Name_kw (ld_glob I hg hm ?_ hdb)
  exact PySem.W.callWith_K0 I.kIn M.kp (run_makeSD (us := []) M F hr hb hd (hx σ) I .nil h)
def tMake0D (C : Addr) (t : TA) : TE := fun σ H Q => t σ H fun vs H1 => vs = [] ∧ ∀ x dx, H1 x = none → H1 dx = none → dx ≠ x → Q (.ref x) (upd (upd H1 dx (.own x)) x (.ins C dx []))
theorem run_make0D {pins : List (Addr × Obj)} {σ : L2.St} {H : Hp} {s : Shared} {Q : VK} (M : Mk0 X.K C) (I : Inv X pins σ H s)
    (h : ∀ x dx, H x = none → H dx = none → dx ≠ x → Q (.ref x) (upd (upd H dx (.own x)) x (.ins C dx []))) :
    wpAny (model X.prog X.w) X.A (call (.ref C) []) (EP X pins σ Q) X.xe s := by
  have hq := h (s.heap.objs.size + 1) s.heap.objs.size (I.hok.fresh (Nat.le_succ _)) (I.hok.fresh (Nat.le_refl _)) (Nat.ne_of_lt (Nat.lt_succ_self _))
  have I2 := Inv.made (C := C) I
  refine wpAny_call (make_map0 I.kIn M.makes M.init (fun self => PySem.W.Looks.of_pure (PySem.W.oi_bind self)) ?_)
  have ho : ((s.heap.push PySem.W.emptyDict).push (PySem.W.instObj C s.heap.objs.size)).get? (s.heap.objs.size + 1) = some (PySem.W.instObj C s.heap.objs.size) := by
    have z := Heap.get?_push_size (s.heap.push PySem.W.emptyDict) (o := PySem.W.instObj C s.heap.objs.size) rfl
    rwa [Heap.size_push] at z
  have t1 : PySem.W.Looks (model X.prog X.w) ((s.heap.push PySem.W.emptyDict).push (PySem.W.instObj C s.heap.objs.size)) (typeOf (.ref (s.heap.objs.size + 1))) (.ref C) := NwA.type_at ho rfl
  have t2 : PySem.W.Looks (model X.prog X.w) ((s.heap.push PySem.W.emptyDict).push (PySem.W.instObj C s.heap.objs.size)) (isInstance (.ref (s.heap.objs.size + 1)) (.type "object")) true := t1.andThen (PySem.W.looks_mroIn I2.kIn M.top)
  refine codeAny_call_builtin PySem.W.oi_plain PySem.W.entry_oi (@PySem.W.check_slot (model X.prog X.w) _ _ _ "object.__init__" "object" "__init__" (.ref (s.heap.objs.size + 1)) [] [] _ PySem.W.oi_kind PySem.W.oi_split t2 (NwA.oi_args_any (.ref (s.heap.objs.size + 1)) [] []) ?_)
  rw [PySem.W.oi_run]
  exact wpAny_pure (And.intro rfl ⟨V.ref (s.heap.objs.size + 1), _, I2, rfl, hq⟩)
theorem pe_make0D0 (M : Mk0 X.K C) (hg : Gl X x) (hm : X.mg x = some (.ref C)) (hdb : (x == ("__debug__" : Str)) = false) :
    PE X (.Call (.Name x p) [] [] pos) (tMake0D C tNil) := by
  refine ⟨fun pins s σ H Q I h => ?_⟩
  refine wpAny_Call_Name_kw (ld_glob I hg hm ?_ hdb)
  exact PySem.W.callWith_K0 I.kIn M.kp (run_make0D M I h.2)
theorem pe_make0D (M : Mk0 X.K C) (hg : Gl X x) (hm : X.mg x = some (.ref C)) (ha : PA X (e :: es) t) (hdb : (x == ("__debug__" : Str)) = false)
    (h1 : starEach (e :: es) X.env = (false, eval e X.env) :: starEach es X.env) (h2 : (backTo pos (starEach es X.env)).any (·.1) = false) :
    PE X (.Call (.Name x p) (e :: es) [] pos) (tMake0D C t) := by
  refine ⟨fun pins s σ H Q I h => ?_⟩
  refine wpAny_Call_Name_kw (ld_glob I hg hm ?_ hdb)
  refine PySem.W.callWith_K (h₀ := X.base) I.ok.mod.kin M.kp (thn (ha.run pos pins s σ H _ I h) fun us s1 ⟨vs, H1, I1, r, q⟩ => ⟨I1.kIn, ?_⟩) h1 h2
  obtain ⟨rfl, q⟩ := q
  cases r
  exact run_make0D M I1 q
def tMethSD (C : Addr) (m : Str) (sp : Sp) (dvs : List V) (E : L2.St → XK) (ta : TE) (t : TA) : TE := fun σ H Q => ta σ H fun x H1 => ∃ a dx fs, x = .ref a ∧ H1 a = some (.ins C dx fs) ∧ fs.lookup m = none ∧
  t σ H1 fun vs H2 => sp (x :: (vs ++ dvs)) H2 Q (E σ)
theorem meth_eq {M : Model} {A : Around} {S : Shared} {Q : Value → Shared → Prop} {E : Value → Shared → Prop} {env : PySem.Env} {args : List Expr} (hbase : attributeBase o m env (eval o env) = eval o env)
    (hform : methodCallForm (args.length + ([] : List Keyword).length) (backTo pos (starEach args env)) (backToKw pos (keywordEach [] env)) = true) (hline : (apos.endLine == pos.line) = true)
    (h : wpAny M A (eval o env) (fun ov s₁ => wpAny M A (getMethod ov m (do return (← importBound o env).getD true)) (fun fx s₂ => wpAny M A (callWith pos fx.1 fx.2 (backTo pos (starEach args env)) (backToKw pos (keywordEach [] env))) Q E s₂) E s₁) E S) :
    wpAny M A (eval (.Call (.Attribute o m apos) args [] pos) env) Q E S := by
  have hpos : methodCallPos true o env apos pos = pure pos := by unfold methodCallPos; simp [hline]
  rw [arm_eval_Call, hbase]
  refine wpAny_bind (wpAny_mono h (fun ov s₁ h₁ => wpAny_bind (wpAny_standAt ?_)) fun _ _ x => x)
  unfold methodCall
  rw [hform]
  refine wpAny_bind (wpAny_holding (wpAny_mono h₁ (fun fx s₂ h₂ => ?_) fun _ _ x => x))
  exact wpAny_bind (wpAny_of_eq hpos h₂)
theorem pe_methSD (he : PE X o ta) (c : Cls X.K C) (hm : Meth X.K C m f) (F : FnOk X.prog X.w X.K X.mg X.base CX k f fd ps sp) (hr : Room k X.A) (hb : Binds X.K fd ps ds) (hd : Vals dvs ds) (hx : ∀ σ, PassesAt CX X σ (E σ)) (ha : PA X (e :: es) t)
    (hst : starEach (e :: es) X.env = (false, eval e X.env) :: starEach es X.env) (hpl : (backTo pos (starEach es X.env)).any (·.1) = false) (hbase : attributeBase o m X.env (eval o X.env) = eval o X.env)
    (hform : methodCallForm ((e :: es).length + ([] : List Keyword).length) (backTo pos (starEach (e :: es) X.env)) (backToKw pos (keywordEach [] X.env)) = true) (hline : (apos.endLine == pos.line) = true) :
    PE X (.Call (.Attribute o m apos) (e :: es) [] pos) (tMethSD C m sp dvs E ta t) := by
  refine ⟨fun pins s σ H Q I h => ?_⟩
  refine meth_eq hbase hform hline (thn (he.run pins s σ H _ I h) fun u s1 ⟨x, H1, I1, rx, a, dx, fs, ex, ea, l, q⟩ => ?_)
  subst ex
  obtain rfl : u = Value.ref a := rx
  refine getmeth_ok I1 ea c hm l ?_
  refine PySem.W.callWith_K (first := [.ref a]) (h₀ := X.base) I.ok.mod.kin hm.kp (thn (ha.run pos pins s1 σ H1 _ I1 q) fun us s2 ⟨vs, H2, I2, r, q2⟩ => ⟨I2.kIn, ?_⟩) hst hpl
  exact run_fnSD (us := .ref a :: us) (vs := .ref a :: vs) F hr hb hd (hx σ) I2 (.cons rfl r) q2
theorem pe_methSD0 (he : PE X o ta) (c : Cls X.K C) (hm : Meth X.K C m f) (F : FnOk X.prog X.w X.K X.mg X.base CX k f fd ps sp) (hr : Room k X.A) (hb : Binds X.K fd ps ds) (hd : Vals dvs ds) (hx : ∀ σ, PassesAt CX X σ (E σ))
    (hbase : attributeBase o m X.env (eval o X.env) = eval o X.env) (hline : (apos.endLine == pos.line) = true) :
    PE X (.Call (.Attribute o m apos) [] [] pos) (tMethSD C m sp dvs E ta tNil) := by
  refine ⟨fun pins s σ H Q I h => ?_⟩
  refine meth_eq hbase (by rfl) hline (thn (he.run pins s σ H _ I h) fun u s1 ⟨x, H1, I1, rx, a, dx, fs, ex, ea, l, q⟩ => ?_)
  subst ex
  obtain rfl : u = Value.ref a := rx
  refine getmeth_ok I1 ea c hm l ?_
  exact PySem.W.callWith_K0 (first := [.ref a]) I1.kIn hm.kp (run_fnSD (us := [.ref a]) (vs := [.ref a]) F hr hb hd (hx σ) I1 (.cons rfl .nil) q)
theorem call_lenO {E : XK} (c : Cls X.K C) (hm : Meth X.K C "__len__" f) (F : FnOk X.prog X.w X.K X.mg X.base CX k f fd ps sp) (hr : Room (k + 1) X.A) (hb : Binds X.K fd ps ds) (hd : Vals dvs ds) (hx : Passes CX X E) :
    CallR X (.builtin "len") (fun xs H Q => ∃ a dx fs, xs = [.ref a] ∧ H a = some (.ins C dx fs) ∧ sp (.ref a :: dvs) H (fun v H2 => ∃ i : Int, v = .int i ∧ 0 ≤ i ∧ i < 2 ^ 63 ∧ Q (.int i) H2) E) := by
  intro pins s σ H xs us Q I r h
  obtain ⟨a, dx, fs, rfl, ha, hsp⟩ := h
  obtain ⟨u, rfl, ru⟩ := vals1 r
  obtain rfl : u = Value.ref a := ru
  obtain ⟨mA, J, _⟩ := ins_get I.hok ha
  obtain ⟨od, J, _⟩ := J.look
  obtain ⟨m', hF⟩ := I.fr
  refine PySem.W.len_K hF I.ok.mod.kin J hm.at_ hm.fn ?_
  have r2 : Vals (V.ref a :: dvs) (Value.ref a :: ds) := .cons rfl hd
  have hl : ([Value.ref a] ++ ds).length = ps.length := by
    have e := r2.length
    rw [F.len _ _ _ _ hsp] at e
    exact e.symm
  refine wpAny_call (codeAny_mono (F.run X.A.in1 X.stack s H ⟨[.ref a], []⟩ (.ref a :: ds) (.ref a :: dvs) _ E hr.in1 I.env0.in1 (hb s [.ref a] I.kIn hl) r2 hsp) fun r s' hq => ?_)
  cases r with
  | error e => exact hx pins σ H s e s' I hq
  | ok fl =>
    cases fl with
    | ret u =>
      obtain ⟨v, H', I', rv, i, rfl, h0, h1, q⟩ := I.after hq
      obtain ⟨t, rfl⟩ := (show ∃ t, u = Value.int i t from rv)
      exact ⟨⟨h0, h1⟩, .int i, H', I'.tok _, ⟨_, rfl⟩, q⟩
    | next => exact False.elim hq
    | brk => exact False.elim hq
    | cont => exact False.elim hq
inductive TyE (K : PySem.W.Frag) (H : Hp) : V → Value → Prop where
  | non : TyE K H .non (.type "NoneType")
  | bl (x : Bool) : TyE K H (.bl x) (.type "bool")
  | int (i : Int) : TyE K H (.int i) (.type "int")
  | str (x : Str) : TyE K H (.str x) (.type "str")
  | lst {a : Addr} {xs : List V} (e : SqL K H a xs) : TyE K H (.ref a) (.type "list")
  | tup {a : Addr} {xs : List V} (e : SqT K H a xs) : TyE K H (.ref a) (.type "tuple")
  | ins {a C dx : Addr} {fs : List (Str × V)} (e : H a = some (.ins C dx fs)) : TyE K H (.ref a) (.ref C)
theorem look_ref {M : Model} {h : Heap} {y : Addr} {o : Obj} {t : Value} (ho : h.get? y = some o) (hc : o.cls = t) : PySem.W.Looks M h (typeOf (.ref y)) t :=
  (PySem.W.Looks.ld ho).andThen (by rw [hc]; exact .now)
theorem TyE.look {pins : List (Addr × Obj)} {σ : L2.St} {H : Hp} {s : Shared} {y : V} {u t : Value} (I : Inv X pins σ H s) (ry : RelV y u) (h : TyE X.K H y t) : PySem.W.Looks (model X.prog X.w) s.heap (typeOf u) t := by
  cases h with
  | non => cases (show u = Value.none from ry); exact .of_pure rfl
  | bl x => cases (show u = Value.bool x from ry); exact .of_pure rfl
  | int i => obtain ⟨t, q⟩ := (show ∃ t, u = Value.int i t from ry); cases q; exact .of_pure rfl
  | str x => obtain ⟨t, q⟩ := (show ∃ t, u = Value.str x t from ry); cases q; exact .of_pure rfl
  | lst e =>
    cases (show u = Value.ref _ from ry)
    obtain ⟨its, _, ⟨o, n, e1, e2, _⟩, _⟩ := I.list e
    exact look_ref e1 e2
  | tup e =>
    cases (show u = Value.ref _ from ry)
    obtain ⟨its, _, ⟨o, e1, e2, _⟩, _⟩ := I.tuple e
    exact look_ref e1 e2
  | ins e =>
    cases (show u = Value.ref _ from ry)
    obtain ⟨mA, J, _⟩ := ins_get I.hok e
    obtain ⟨od, J, _⟩ := J.look
    exact J.type
theorem entry_ne {prog : Program} {w : World} {A : Around} {E : Value → Shared → Prop} {s : Shared} {K : PySem.W.Frag} {x C f : Addr} {b : Value} {ox : Obj} {od : Option Obj} (hu : A.units < cLine) (X : K.In s.heap) (I : PySem.W.InstAt s.heap x ox C od)
    (hs : PySem.W.findIn K (.ref C) "__eq__" = some (some (.ref f))) (hf : PySem.W.isFn K (.ref f) = true) {Q : Fin → Shared → Prop}
    (hcall : wpAny (model prog w) A (call (.ref f) [.ref x, b]) (fun v s' => ∃ c, v = .bool c ∧ Q (.done (.ret (.bool (!c)))) s') E s) : wpAny (model prog w) A (Builtin.«object.__ne__» ⟨[.ref x, b], []⟩) Q E s := by
  unfold Builtin.«object.__ne__»
  repeat (first
    | with_reducible refine wpAny_cRoomFor hu ?_
    | (refine wpAny_bind (m := callSpecialIfBound? (.ref x) (Str.ofString "__eq__") [b])
        (PySem.W.ifBound_K X I hs hf (wpAny_mono hcall (fun r s' hr => by
          obtain ⟨c, rfl, hq⟩ := hr
          repeat (first | exact hq | exact wpAny_pure hq | exact wpAny_truthy_bool hq | (refine wpAny_bind (m := truthy (.bool _)) (wpAny_truthy_bool ?_)) | wp_step)) fun _ _ e => e)))
    | wp_step)
theorem ifBound_ne {M : Model} {A : Around} {E : Value → Shared → Prop} {s : Shared} {K : PySem.W.Frag} {x C : Addr} {ox : Obj} {od : Option Obj} {args : List Value} {Q : Option Value → Shared → Prop} (X : K.In s.heap) (I : PySem.W.InstAt s.heap x ox C od) (hs : PySem.W.findIn K (.ref C) "__ne__" = some (some (.builtin "object.__ne__")))
    (h : wpAny M A (call (.builtin "object.__ne__") (.ref x :: args)) (fun v => Q (some v)) E s) : wpAny M A (callSpecialIfBound? (.ref x) "__ne__" args) Q E s := by
  simp only [callSpecialIfBound?, bindSpecialIfBound?]
  refine wpAny_holding (wpAny_bind (wpAny_bind (wpAny_bind (I.type.here ((PySem.W.looks_findIn X hs).here ?_)))))
  refine wpAny_bind (wpAny_askSetting (wpAny_ite ?_))
  have fin : wpAny M A (call (.builtin "object.__ne__") ([.ref x] ++ args) >>= fun v => pure (some v)) Q E s := wpAny_bind (wpAny_mono h (fun v s' h' => wpAny_pure h') fun _ _ h' => h')
  split
  · exact wpAny_bind (wpAny_of_eq (F.cmp_object.ne.bind _) (wpAny_pure (by exact fin)))
  · exact wpAny_tryCatch (wpAny_bind (wpAny_of_eq (F.cmp_object.ne.bind _) (wpAny_pure (by exact fin))))
theorem neB_ok {K : PySem.W.Frag} {C : Addr} (h : neB K C = true) : PySem.W.findIn K (.ref C) "__ne__" = some (some (.builtin "object.__ne__")) ∧ PySem.W.mroIn K C (.type "object") = some true := by
  obtain ⟨h1, h2⟩ := Bool.and_eq_true_iff.mp h
  exact ⟨of_decide_eq_true h1, of_decide_eq_true h2⟩
theorem nf_of {K : PySem.W.Frag} {M : Mm} {y : D} {t : Sum String Addr} {C : Addr} (h : tyD M y = some t) (n : nfX K t C = true) : PySem.W.notFirst K C (clsV t) = true := by
  have ne : t ≠ .inl "!=" := by
    rintro rfl
    cases y <;> simp only [tyD] at h <;> (try split at h) <;> simp at h
  unfold nfX at n
  rw [if_neg ne] at n
  exact n
theorem op_neO {E : XK} (c : Cls X.K C) (hm : Meth X.K C "__eq__" f) (hne : neB X.K C = true) (F : FnOk X.prog X.w X.K X.mg X.base CX k f fd ps sp) (hr : Room (k + 1) X.A) (hb : Binds X.K fd ps ds) (hd : Vals dvs ds) (hx : Passes CX X E) :
    OpR X (compareOp .NotEq) (fun x y H Q => ∃ a dx fs, x = .ref a ∧ H a = some (.ins C dx fs) ∧ (∃ t, TyE X.K H y t ∧ PySem.W.notFirst X.K C t = true) ∧ sp (.ref a :: y :: dvs) H (fun v H2 => ∃ b, v = .bl b ∧ Q (.bl (!b)) H2) E) := by
  intro pins s σ H x y v u Q I rx ry h
  obtain ⟨a, dx, fs, rfl, ha, ⟨t, ht, hn⟩, hsp⟩ := h
  obtain rfl : v = Value.ref a := rx
  obtain ⟨mA, J, _⟩ := ins_get I.hok ha
  obtain ⟨od, J, _⟩ := J.look
  obtain ⟨n1, n2⟩ := neB_ok hne
  have XK : X.K.In s.heap := I.kIn
  show wpAny (model X.prog X.w) X.A (richCompare .NotEq (.ref a) u) (EP X pins σ Q) X.xe s
  have hty : PySem.W.Looks (model X.prog X.w) s.heap (typeOf u) t := ht.look I ry
  have r2 : Vals (V.ref a :: y :: dvs) (Value.ref a :: u :: ds) := .cons rfl (.cons ry hd)
  have hl : ([Value.ref a, u] ++ ds).length = ps.length := by
    have e := r2.length
    rw [F.len _ _ _ _ hsp] at e
    exact e.symm
  have hcall : wpAny (model X.prog X.w) X.A.in1 (call (.ref f) [.ref a, u]) (fun v s' => ∃ c, v = .bool c ∧ ∃ d H', Inv X pins σ H' s' ∧ RelV d (.bool (!c)) ∧ Q d H') X.xe s := by
    refine wpAny_call (codeAny_mono (F.run X.A.in1 X.stack s H ⟨[.ref a, u], []⟩ (.ref a :: u :: ds) (.ref a :: y :: dvs) _ E hr.in1 I.env0.in1 (hb s [.ref a, u] I.kIn hl) r2 hsp) fun r s' hq => ?_)
    cases r with
    | error e => exact hx pins σ H s e s' I hq
    | ok fl =>
      cases fl with
      | ret w =>
        obtain ⟨v, H', I', rv, b, rfl, q⟩ := I.after hq
        obtain rfl : w = Value.bool b := rv
        exact ⟨b, rfl, .bl (!b), H', I', rfl, q⟩
      | next => exact False.elim hq
      | brk => exact False.elim hq
      | cont => exact False.elim hq
  have one : wpAny (model X.prog X.w) X.A (tryCompare (.ref a) "__ne__" u) (fun r s' => ∃ v, r = some v ∧ EP X pins σ Q v s') X.xe s := by
    unfold tryCompare
    refine wpAny_bind (ifBound_ne XK J n1 (wpAny_call (codeAny_call_builtin PySem.F.cmp_object.ne.plain PySem.F.cmpEntry_ne (PySem.W.check_slot PySem.F.cmpKind_ne PySem.F.cmpSplit_ne (J.type.andThen (PySem.W.looks_mroIn XK n2)) (PySem.F.cmpArgs_ne _ _)
      (entry_ne (A := X.A.in1) hr.in1.units0 XK J hm.at_ hm.fn (wpAny_mono hcall (fun v s' hv => ?_) fun _ _ e => e))))))
    obtain ⟨c, rfl, d, H', I', rd, q⟩ := hv
    refine ⟨c, rfl, ?_⟩
    first | exact wpAny_pure ⟨_, rfl, d, H', I', rd, q⟩ | exact ⟨_, rfl, wpAny_pure ⟨_, rfl, d, H', I', rd, q⟩⟩
  unfold richCompare
  simp only [oneThing_ref]
  refine wpAny_holding (wpAny_bind (wpAny_cRoomFor hr.units0 ?_))
  refine wpAny_bind (J.type.here (wpAny_bind (hty.here ?_)))
  split
  · rename_i q
    have e : PySem.W.subIn X.K t (.ref C) = some false := by
      rcases Bool.or_eq_true_iff.mp hn with e | e
      · rw [beq_iff_eq.mp e] at q; simp at q
      · exact beq_iff_eq.mp e
    refine wpAny_bind ((PySem.W.looks_subIn XK e).here ?_)
    simp only [Bool.false_eq_true, if_false]
    refine wpAny_bind (wpAny_mono one (fun r s' z => ?_) fun _ _ e => e)
    obtain ⟨v, rfl, hq⟩ := z
    exact wpAny_pure hq
  · refine wpAny_bind (wpAny_pure ?_)
    simp only [Bool.false_eq_true, if_false]
    refine wpAny_bind (wpAny_mono one (fun r s' z => ?_) fun _ _ e => e)
    obtain ⟨v, rfl, hq⟩ := z
    exact wpAny_pure hq
theorem op_eqO {E : XK} (c : Cls X.K C) (hm : Meth X.K C "__eq__" f) (F : FnOk X.prog X.w X.K X.mg X.base CX k f fd ps sp) (hr : Room k X.A) (hb : Binds X.K fd ps ds) (hd : Vals dvs ds) (hx : Passes CX X E) :
    OpR X (compareOp .Eq) (fun x y H Q => ∃ a dx fs, x = .ref a ∧ H a = some (.ins C dx fs) ∧ (∃ t, TyE X.K H y t ∧ PySem.W.notFirst X.K C t = true) ∧ sp (.ref a :: y :: dvs) H (fun v H2 => ∃ b, v = .bl b ∧ Q (.bl b) H2) E) := by
  intro pins s σ H x y v u Q I rx ry h
  obtain ⟨a, dx, fs, rfl, ha, ⟨t, ht, hn⟩, hsp⟩ := h
  obtain rfl : v = Value.ref a := rx
  obtain ⟨mA, J, _⟩ := ins_get I.hok ha
  obtain ⟨od, J, _⟩ := J.look
  obtain ⟨m', hF⟩ := I.fr
  show wpAny (model X.prog X.w) X.A (richCompare .Eq (.ref a) u) (EP X pins σ Q) X.xe s
  have hty : PySem.W.Looks (model X.prog X.w) s.heap (typeOf u) t := ht.look I ry
  refine PySem.W.cmp_K (op := .Eq) (tb := t) hr.units0 hF I.ok.mod.kin J hty hn hm.at_ hm.fn ?_
  have r2 : Vals (V.ref a :: y :: dvs) (Value.ref a :: u :: ds) := .cons rfl (.cons ry hd)
  have hl : ([Value.ref a, u] ++ ds).length = ps.length := by
    have e := r2.length
    rw [F.len _ _ _ _ hsp] at e
    exact e.symm
  refine wpAny_call (codeAny_mono (F.run X.A X.stack s H ⟨[.ref a, u], []⟩ (.ref a :: u :: ds) (.ref a :: y :: dvs) _ E hr I.env0 (hb s [.ref a, u] I.kIn hl) r2 hsp) fun r s' hq => ?_)
  cases r with
  | error e => exact hx pins σ H s e s' I hq
  | ok fl =>
    cases fl with
    | ret w =>
      obtain ⟨v, H', I', rv, b, rfl, q⟩ := I.after hq
      obtain rfl : w = Value.bool b := rv
      exact ⟨.bl b, H', I', rfl, q⟩
    | next => exact False.elim hq
    | brk => exact False.elim hq
    | cont => exact False.elim hq
end
theorem RelM.newI {K : PySem.W.Frag} {M : Mm} {H : Hp} {p dx C : Addr} (r : RelM K M H) (hp : H p = none) (hd : H dx = none) (hne : dx ≠ p) : RelM K (M.put p (.ins C [])) (upd (upd H dx (.own p)) p (.ins C dx [])) := fun a o e => by
  have hp' : upd H dx (.own p) p = none := by rw [upd_ne (Ne.symm hne)]; exact hp
  by_cases ha : a = p
  · subst ha; rw [Mm.put_same] at e; cases e
    exact ⟨dx, [], upd_same, Nat.le_refl _, fun f d hf => by simp [List.lookup] at hf, fun f _ => rfl⟩
  · rw [Mm.put_ne ha] at e; exact (r.new hd).new hp' a o e
theorem TX.newI {H : Hp} {p dx C : Addr} (hp : H p = none) (hd : H dx = none) (hne : dx ≠ p) : TX H (upd (upd H dx (.own p)) p (.ins C dx [])) :=
  (TX.new hd).trans (TX.new (by rw [upd_ne (Ne.symm hne)]; exact hp))
theorem DflOk.get {K : PySem.W.Frag} {fd : FuncData} {ps : List Str} {dfl : List D} (h : DflOk K fd ps dfl) (j : Nat) (hj : j ≤ dfl.length) : ∃ dvs ds, Binds K fd ps ds ∧ Vals dvs ds ∧ ∀ H, Reps K H (dfl.drop (dfl.length - j)) dvs := h j hj
theorem tyD_E {K : PySem.W.Frag} {M : Mm} {H : Hp} {d : D} {v : V} {t : Sum String Addr} (m : RelM K M H) (r : Rep K H d v) (h : tyD M d = some t) : TyE K H v (clsV t) := by
  cases r with
  | non => cases h; exact .non
  | bl b => cases h; exact .bl b
  | int i => cases h; exact .int i
  | str x => cases h; exact .str x
  | ty n => cases h
  | tup s q => cases h; exact .tup s
  | ref a =>
    simp only [tyD] at h
    split at h
    · rename_i e; cases h; obtain ⟨vs, a1, a2⟩ := m.sq (.inl e); exact .lst a1
    · rename_i e; cases h; obtain ⟨vs, a1, a2⟩ := m.sq (.inr e); exact .lst a1
    · rename_i C fs e; cases h; obtain ⟨dx, vfs, a1, _⟩ := m a _ e; exact .ins a1
    · cases h
theorem tyD_X {K : PySem.W.Frag} {M : Mm} {H : Hp} {d : D} {v : V} {t : Sum String Addr} {C : Addr} {b : Bool} (m : RelM K M H) (r : Rep K H d v) (h : tyD M d = some t) (ok : IsiOk K t C b) : TyX K H v (clsV t) ∧ PySem.W.kitOne K (clsV t) (.ref C) = some b := by
  cases r with
  | non => cases h; exact ⟨.base .non, ok⟩
  | bl b => cases h; exact ⟨.base (.bl b), ok⟩
  | int i => cases h; exact ⟨.base (.int i), ok⟩
  | str x => cases h; exact ⟨.base (.str x), ok⟩
  | ty n => cases h
  | tup s q =>
    cases h
    refine ⟨?_, ok⟩
    rcases s with (s | ⟨o, s⟩) | ⟨o, its, n, hk, hc, _⟩
    · exact .base (.tup s)
    · exact .fTuple s
    · exact .kTuple hk hc
  | ref a =>
    simp only [tyD] at h
    split at h
    · rename_i e; cases h; obtain ⟨vs, a1, a2⟩ := m a _ e; exact ⟨.base (.lst a1), ok⟩
    · rename_i e; cases h; obtain ⟨vs, o, a1, a2⟩ := m a _ e; exact ⟨.base (.frz a1), ok⟩
    · rename_i D fs e; cases h; obtain ⟨dx, vfs, a1, _⟩ := m a _ e; exact ⟨.base (.ins a1 ok.1.cl ok.1.ha ok.1.hn ok.1.htk ok.1.hm), ok.2⟩
    · cases h
theorem R_of' {K : PySem.W.Frag} {ρ : DEnv} {M M' : Mm} {σ : L2.St} {H H' : Hp} (R : Rel K ρ M σ H) (e : TX H H') (m : RelM K M' H') : Rel K ρ M' σ H' := ⟨R.env.mono e, m⟩
section
variable {CX : CXT} {X : Cx} {T : Tb} {Γ : Gm} {W : WX} {lv : Nat}
theorem mk_ok (G : Good CX X T Γ W lv) (hcm : T.calm = true) {g : Nat} {x : Str} {ta : TDs} {es : List Expr} {p pos : Pos} {n : Nat} (hg : T.gn[g]? = some (x, none)) (hgl : Gl X x) (hpl : (x == ("__debug__" : Str)) = false) (ha : PA X es (liftA X.K W ta))
    (hes : (es = [] ∧ n = 0 ∧ ∀ ρ M E Q, ta ρ M E Q → Q [] M) ∨ ∃ e r, es = e :: r ∧ starEach (e :: r) X.env = (false, eval e X.env) :: starEach r X.env ∧ (backTo pos (starEach r X.env)).any (·.1) = false) :
    PE X (.Call (.Name x p) es [] pos) (lift X.K W fun ρ M E Q => isCla n (Γ.gv g) ∧ ta ρ M E fun ds M1 => mkD (Γ.gv g) n ds M1 E Q) := by
  have go := G.glob g x none hg
  cases gv : Γ.gv g with
  | fn n sp dfl => rw [gv] at go; exact go.elim
  | val d => exact PE.never fun σ H Q ⟨ρ, M, E, Qd, R, ⟨t, _⟩, _⟩ => t
  | err C fs tx => exact PE.never fun σ H Q ⟨ρ, M, E, Qd, R, ⟨t, _⟩, _⟩ => t
  | cls C => exact PE.never fun σ H Q ⟨ρ, M, E, Qd, R, ⟨t, _⟩, _⟩ => t
  | cla C i =>
    cases i with
    | none => exact PE.never fun σ H Q ⟨ρ, M, E, Qd, R, ⟨t, _⟩, _⟩ => t
    | some i =>
      obtain ⟨a, sp, dfl⟩ := i
      rw [gv] at go
      obtain ⟨hm, ⟨k, f, fd, ps, hk, Mk, F, hps, hb⟩ | ⟨M0, rfl, rfl, rfl⟩⟩ := go
      rotate_left
      · have core : ∀ {σ : L2.St} {Q : VK} {ρ : DEnv} {E : EK} {Qd : QD} {M1 : Mm} {H0 H1 : Hp} {ds : List D} {vs : List V}, TX H0 H1 → Rel X.K ρ M1 σ H1 → Reps X.K H1 ds vs → mkD (.cla C (some (0, spI0, []))) n ds M1 E Qd →
            (∀ d M' v H', TX H0 H' → Rel X.K ρ M' σ H' → Rep X.K H' d v → Qd d M' → Q v H') →
            vs = [] ∧ ∀ x dx, H1 x = none → H1 dx = none → dx ≠ x → Q (.ref x) (upd (upd H1 dx (.own x)) x (.ins C dx [])) := by
          intro σ Q ρ E Qd M1 H0 H1 ds vs e1 R1 r1 t1 kq
          obtain ⟨t1, t2, t3, t4⟩ := t1
          obtain rfl : n = 0 := Nat.le_zero.mp t1
          obtain rfl : ds = [] := List.length_eq_zero_iff.mp t3
          cases r1
          refine ⟨rfl, fun y dx hy hdx hne => ?_⟩
          have ex := TX.newI (C := C) hy hdx hne
          exact kq _ _ _ _ (e1.trans ex) (R_of' R1 ex (R1.mem.newI hy hdx hne)) (.ref y) (t4 y (R1.mem.free hy)).2
        rcases hes with ⟨rfl, rfl, h0⟩ | ⟨e, r, rfl, hst, hpl2⟩
        · refine PE.imp (pe_make0D0 M0 hgl hm hpl) fun σ H Q ⟨ρ, M, E, Qd, R, ⟨_, t⟩, k', x'⟩ => ?_
          exact core (TX.refl H) R .nil (h0 _ _ _ _ t) k'
        · refine PE.imp (pe_make0D M0 hgl hm ha hpl hst hpl2) fun σ H Q ⟨ρ, M, E, Qd, R, ⟨_, t⟩, k', x'⟩ => ?_
          exact ⟨ρ, M, E, _, R, t, fun ds M1 vs H1 e1 R1 r1 t1 => core e1 R1 r1 t1 k', x'⟩
      by_cases hj : a - n ≤ dfl.length
      · obtain ⟨dvs, dss, bi, vd, rd⟩ := hb.get _ hj
        have core : ∀ {σ : L2.St} {Q : VK} {ρ : DEnv} {E : EK} {Qd : QD} {M1 : Mm} {H0 H1 : Hp} {ds : List D} {vs : List V}, TX H0 H1 → Rel X.K ρ M1 σ H1 → Reps X.K H1 ds vs → mkD (.cla C (some (a, sp, dfl))) n ds M1 E Qd →
            (∀ d M' v H', TX H0 H' → Rel X.K ρ M' σ H' → Rep X.K H' d v → Qd d M' → Q v H') → (∀ x M' cls dd H', TX H0 H' → Rel X.K ρ M' σ H' → RelX X.K H' x cls dd → E x M' → W cls dd σ H') →
            ∀ x dx, H1 x = none → H1 dx = none → dx ≠ x → liftSp X.K (a + 1) sp (.ref x :: (vs ++ dvs)) (upd (upd H1 dx (.own x)) x (.ins C dx [])) (fun v H2 => v = .non ∧ Q (.ref x) H2) (WE W σ) := by
          intro σ Q ρ E Qd M1 H0 H1 ds vs e1 R1 r1 t1 kq kx y dx hy hdx hne
          obtain ⟨t1, t2, t3, t4⟩ := t1
          have ex := TX.newI (C := C) hy hdx hne
          have l2 := (rd H1).length
          refine ⟨?_, .ref y :: (ds ++ dfl.drop (dfl.length - (a - n))), M1.put y (.ins C []), E, _, R1.mem.newI hy hdx hne, .cons (.ref y) ((r1.mono ex).append (rd _)), t4 y (R1.mem.free hy), fun d M' v H' e m r q => ?_, fun z M' cc dd H' e m rx q => kx z M' cc dd H' ((e1.trans ex).trans e) (R_of' (R_of' R1 ex (R1.mem.newI hy hdx hne)) e m) rx q⟩
          · rw [List.length_cons, List.length_append, ← r1.length, ← l2, List.length_drop, t3]; omega
          · obtain ⟨rfl, q⟩ := q
            cases r
            exact ⟨rfl, kq _ _ _ _ ((e1.trans ex).trans e) (R_of' (R_of' R1 ex (R1.mem.newI hy hdx hne)) e m) (.ref y) q⟩
        rcases hes with ⟨rfl, rfl, h0⟩ | ⟨e, r, rfl, hst, hpl2⟩
        · refine PE.imp (pe_makeSD0 (E := WE W) Mk F ((G.room hcm).mono hk) hgl hm bi vd G.pass hpl) fun σ H Q ⟨ρ, M, E, Qd, R, ⟨_, t⟩, k', x'⟩ => ?_
          exact fun y dx hy hdx hne => core (TX.refl H) R .nil (h0 _ _ _ _ t) k' x' y dx hy hdx hne
        · refine PE.imp (pe_makeSD (E := WE W) Mk F ((G.room hcm).mono hk) hgl hm bi vd G.pass ha hpl hst hpl2) fun σ H Q ⟨ρ, M, E, Qd, R, ⟨_, t⟩, k', x'⟩ => ?_
          exact ⟨ρ, M, E, _, R, t, fun ds M1 vs H1 e1 R1 r1 t1 y dx hy hdx hne => core e1 R1 r1 t1 k' x' y dx hy hdx hne, x'⟩
      · exact PE.never fun σ H Q ⟨ρ, M, E, Qd, R, ⟨t, _⟩, _⟩ => hj t
theorem mt_get (G : Good CX X T Γ W lv) {g : Nat} {C : Addr} {m : Str} {k : Nat} (hC : (Γ.gv g).insOf = some C) (h : mtN Γ g m k) : ∃ n sp dfl, Γ.mt g m = some (n, sp, dfl) ∧ ∃ kk f fd ps, kk + 1 ≤ lv ∧ Cls X.K C ∧ Meth X.K C m f ∧ FnOk X.prog X.w X.K X.mg X.base CX kk f fd ps (liftSp X.K (n + 1) sp) ∧ ps.length = n + 1 ∧
    ∃ dvs ds, Binds X.K fd ps ds ∧ Vals dvs ds ∧ ∀ H, Reps X.K H (dfl.drop (dfl.length - (n - k))) dvs := by
  unfold mtN at h
  split at h
  · rename_i n sp dfl e
    obtain ⟨kk, f, fd, ps, hk, h1, h2, h3, h4, h5⟩ := G.mt _ _ _ _ _ _ hC e
    exact ⟨n, sp, dfl, e, kk, f, fd, ps, hk, h1, h2, h3, h4, h5 _ h⟩
  · exact h.elim
theorem mtN_dec (Γ : Gm) (g : Nat) (m : Str) (k : Nat) : mtN Γ g m k ∨ ¬ mtN Γ g m k := Classical.em _
theorem mc_ok (G : Good CX X T Γ W lv) (hcm : T.calm = true) {g : Nat} {C : Addr} (hC : (Γ.gv g).insOf = some C) {m : Str} {tx : TD} {ta : TDs} {o : Expr} {es : List Expr} {ap pos : Pos} {n : Nat} (ho : PE X o (lift X.K W tx)) (ha : PA X es (liftA X.K W ta)) (hbase : attributeBase o m X.env (eval o X.env) = eval o X.env) (hline : (ap.endLine == pos.line) = true)
    (hes : (es = [] ∧ n = 0 ∧ ∀ ρ M E Q, ta ρ M E Q → Q [] M) ∨ ∃ e r, es = e :: r ∧ starEach (e :: r) X.env = (false, eval e X.env) :: starEach r X.env ∧ (backTo pos (starEach r X.env)).any (·.1) = false ∧ methodCallForm ((e :: r).length + ([] : List Keyword).length) (backTo pos (starEach (e :: r) X.env)) (backToKw pos (keywordEach [] X.env)) = true) :
    PE X (.Call (.Attribute o m ap) es [] pos) (lift X.K W fun ρ M E Q => mtN Γ g m n ∧ tx ρ M E fun x M1 => InsM M1 C m x ∧ ta ρ M1 E fun ds M2 => mcD Γ g m x n ds M2 E Q) := by
  rcases mtN_dec Γ g m n with hmt | hmt
  case inr => exact PE.never fun σ H Q ⟨ρ, M, E, Qd, R, ⟨t, _⟩, _⟩ => hmt t
  obtain ⟨a, sp, dfl, emt, k, f, fd, ps, hk, cl, me, F, hps, dvs, dss, bi, vd, rd⟩ := mt_get G hC hmt
  have rm : Room k X.A := (G.room hcm).mono (by omega)
  have fin : ∀ {σ : L2.St} {Q : VK} {ρ : DEnv} {E : EK} {Qd : QD} {M2 : Mm} {H0 H2 : Hp} {ds : List D} {vs : List V} {d : D} {v : V}, TX H0 H2 → Rel X.K ρ M2 σ H2 → Reps X.K H2 ds vs → Rep X.K H2 d v → mcD Γ g m d n ds M2 E Qd →
      (∀ d M' v H', TX H0 H' → Rel X.K ρ M' σ H' → Rep X.K H' d v → Qd d M' → Q v H') → (∀ x M' cls dd H', TX H0 H' → Rel X.K ρ M' σ H' → RelX X.K H' x cls dd → E x M' → W cls dd σ H') →
      liftSp X.K (a + 1) sp (v :: (vs ++ dvs)) H2 Q (WE W σ) := by
    intro σ Q ρ E Qd M2 H0 H2 ds vs d v e2 R2 r2 rv t2 kq kx
    unfold mcD at t2
    rw [emt] at t2
    obtain ⟨t1, t2, t3, t4⟩ := t2
    have l2 := (rd H2).length
    refine ⟨?_, d :: (ds ++ dfl.drop (dfl.length - (a - n))), M2, E, Qd, R2.mem, .cons rv (r2.append (rd _)), t4, fun d M' v H' e m r q => kq _ _ _ _ (e2.trans e) (R_of' R2 e m) r q, fun z M' cc dd H' e m rx q => kx z M' cc dd H' (e2.trans e) (R_of' R2 e m) rx q⟩
    rw [List.length_cons, List.length_append, ← r2.length, ← l2, List.length_drop, t3]; omega
  have obj : ∀ {M1 : Mm} {H1 : Hp} {d : D} {v : V}, RelM X.K M1 H1 → Rep X.K H1 d v → InsM M1 C m d → ∃ p dx vfs, v = .ref p ∧ H1 p = some (.ins C dx vfs) ∧ vfs.lookup m = none := by
    intro M1 H1 d v mm r h
    obtain ⟨p, fs, rfl, h1, h2⟩ := h
    cases r
    obtain ⟨dx, vfs, w1, w2, w3, w4⟩ := mm _ _ h1
    exact ⟨p, dx, vfs, rfl, w1, w4 _ h2⟩
  rcases hes with ⟨rfl, rfl, h0⟩ | ⟨e, r, rfl, hst, hpl2, hform⟩
  · refine PE.imp (pe_methSD0 (E := WE W) ho cl me F rm bi vd G.pass hbase hline) fun σ H Q ⟨ρ, M, E, Qd, R, ⟨_, t⟩, k', x'⟩ => ?_
    refine ⟨ρ, M, E, _, R, t, fun d M1 v H1 e1 R1 r1 ⟨hi, t1⟩ => ?_, x'⟩
    obtain ⟨p, dx, vfs, rfl, w1, w2⟩ := obj R1.mem r1 hi
    exact ⟨p, dx, vfs, rfl, w1, w2, fin e1 R1 .nil r1 (h0 _ _ _ _ t1) k' x'⟩
  · refine PE.imp (pe_methSD (E := WE W) ho cl me F rm bi vd G.pass ha hst hpl2 hbase hform hline) fun σ H Q ⟨ρ, M, E, Qd, R, ⟨_, t⟩, k', x'⟩ => ?_
    refine ⟨ρ, M, E, _, R, t, fun d M1 v H1 e1 R1 r1 ⟨hi, t1⟩ => ?_, x'⟩
    obtain ⟨p, dx, vfs, rfl, w1, w2⟩ := obj R1.mem r1 hi
    refine ⟨p, dx, vfs, rfl, w1, w2, ρ, M1, E, _, R1, t1, fun ds M2 vs H2 e2 R2 r2 t2 => ?_, fun z M' c dd H' e' => x' z M' c dd H' (e1.trans e')⟩
    exact fin (e1.trans e2) R2 r2 (r1.mono e2) t2 k' x'
theorem pr_ok (G : Good CX X T Γ W lv) (hcm : T.calm = true) {g : Nat} {C : Addr} (hC : (Γ.gv g).insOf = some C) {f : Str} {tx : TD} {o : Expr} {pos : Pos} (ho : PE X o (lift X.K W tx)) (hbase : attributeBase o f X.env (eval o X.env) = eval o X.env) :
    PE X (.Attribute o f pos) (lift X.K W fun ρ M E Q => (Γ.pr g f).isSome = true ∧ tx ρ M E fun x M1 => InsD M1 C x ∧ prD Γ g f x M1 Q) := by
  cases hp : Γ.pr g f with
  | none => exact PE.never fun σ H Q ⟨ρ, M, E, Qd, R, ⟨t, _⟩, _⟩ => by cases t
  | some sp =>
    obtain ⟨k, p, g', fd, ps, hk, cl, po, F, bi⟩ := G.pr _ _ _ _ hC hp
    refine PE.imp (pe_prop (E := fun _ _ _ => False) ho cl po F ((G.room hcm).mono hk) bi .nil (fun pins σ H s e s' I c => absurd c (G.cx0 _ _ _ _ _)) hbase) fun σ H Q ⟨ρ, M, E, Qd, R, ⟨_, t⟩, k', x'⟩ => ?_
    refine ⟨ρ, M, E, _, R, t, fun d M1 v H1 e1 R1 r1 ⟨hi, t1⟩ => ?_, x'⟩
    obtain ⟨a, fs, rfl, h1⟩ := hi
    cases r1
    obtain ⟨dx, vfs, w1, _⟩ := R1.mem _ _ h1
    unfold prD at t1
    rw [hp] at t1
    exact ⟨a, dx, vfs, rfl, w1, rfl, [.ref a], M1, _, Qd, R1.mem, .cons (.ref a) .nil, t1, fun d M' v H' e m r q => k' _ _ _ _ (e1.trans e) (R_of' R1 e m) r q, fun z M' cc dd H' e m rx q => q.elim⟩
theorem iso_ok {C : Addr} {tx : TD} {o : Expr} {y : Str} {p py pos : Pos} (G : Good CX X T Γ W lv) (ho : PE X o (lift X.K W tx)) (hgx : Gl X "isinstance") (nm : X.mg "isinstance" = none) (hgy : Gl X y) (hm : X.mg y = some (.ref C)) (hpl : (y == ("__debug__" : Str)) = false)
    (hst : ∀ es, starEach (o :: es) X.env = (false, eval o X.env) :: starEach es X.env) : PE X (.Call (.Name "isinstance" p) [o, .Name y py] [] pos) (lift X.K W fun ρ M E Q => tx ρ M E fun x M1 => isoD Γ C x M1 Q) := by
  have A := pa_cons ho (pa_cons (pe_glob (pos := py) (v := .ref C) hgy hm rfl hpl) pa_nil rfl) (hst _)
  refine PE.imp (pe_callB (id := "isinstance") call_isi hgx nm (by decide +kernel) A (by decide) (by decide) (hst _) rfl) fun σ H Q q => ?_
  refine lift1 (r := fun x H1 Q => rIsi X.K [x, .ref C] H1 Q) (rd := fun x M1 E Q => isoD Γ C x M1 Q) q fun d v M1 H1 ρ E Qd R r1 t k x => ?_
  unfold isoD at t
  split at t
  · rename_i ty ht
    split at t
    · rename_i b hb
      obtain ⟨a1, a2⟩ := tyD_X R.mem r1 ht (G.isi _ _ _ hb)
      exact ⟨v, .ref C, _, .ref C, b, rfl, .own C, a1, a2, k _ _ _ _ (TX.refl _) R (.bl b) t⟩
    · exact t.elim
  · exact t.elim
theorem lno_ok (G : Good CX X T Γ W lv) (hcm : T.calm = true) {g : Nat} {C : Addr} (hC : (Γ.gv g).insOf = some C) {tx : TD} {o : Expr} {p pos : Pos} (ho : PE X o (lift X.K W tx)) (hgx : Gl X "len") (nm : X.mg "len" = none) (hst : starEach [o] X.env = (false, eval o X.env) :: starEach [] X.env) :
    PE X (.Call (.Name "len" p) [o] [] pos) (lift X.K W fun ρ M E Q => mtN Γ g "__len__" 0 ∧ tx ρ M E fun x M1 => InsD M1 C x ∧ mcD Γ g "__len__" x 0 [] M1 (fun _ _ => False) fun d M2 => ∃ i : Int, d = .int i ∧ 0 ≤ i ∧ i < 2 ^ 63 ∧ Q (.int i) M2) := by
  rcases mtN_dec Γ g "__len__" 0 with hmt | hmt
  case inr => exact PE.never fun σ H Q ⟨ρ, M, E, Qd, R, ⟨t, _⟩, _⟩ => hmt t
  obtain ⟨a, sp, dfl, emt, k, f, fd, ps, hk, cl, me, F, hps, dvs, dss, bi, vd, rd⟩ := mt_get G hC hmt
  have rm : Room (k + 1) X.A := (G.room hcm).mono hk
  refine PE.imp (pe_callB (id := "len") (call_lenO (E := fun _ _ _ => False) cl me F rm bi vd (fun pins σ H s e s' I c => absurd c (G.cx0 _ _ _ _ _))) hgx nm (by decide +kernel) (pa_cons ho pa_nil hst) (by decide) (by decide) hst rfl) fun σ H Q ⟨ρ, M, E, Qd, R, ⟨_, t⟩, k', x'⟩ => ?_
  refine ⟨ρ, M, E, _, R, t, fun d M1 v H1 e1 R1 r1 ⟨hi, t1⟩ => ?_, x'⟩
  obtain ⟨p, fs, rfl, h1⟩ := hi
  cases r1
  obtain ⟨dx, vfs, w1, _⟩ := R1.mem _ _ h1
  unfold mcD at t1
  rw [emt] at t1
  obtain ⟨t1, t2, t3, t4⟩ := t1
  have l2 := (rd H1).length
  refine ⟨p, dx, vfs, rfl, w1, ?_, .ref p :: ([] ++ dfl.drop (dfl.length - (a - 0))), M1, _, _, R1.mem, .cons (.ref p) (rd _), t4, fun d M' v H' e m r q => ?_, fun z M' cc dd H' e m rx q => q.elim⟩
  · rw [List.length_cons, ← l2, List.length_drop]; omega
  · obtain ⟨i, rfl, h0, h2, q⟩ := q
    cases r
    exact ⟨i, rfl, h0, h2, k' _ _ _ _ (e1.trans e) (R_of' R1 e m) (.int i) q⟩
theorem oeq_ok (G : Good CX X T Γ W lv) (hcm : T.calm = true) {g : Nat} {C : Addr} (hC : (Γ.gv g).insOf = some C) {tx ty : TD} {a b : Expr} {pos : Pos} (ha : PE X a (lift X.K W tx)) (hb : PE X b (lift X.K W ty)) (hmk : behindInMarks .Eq b = false) :
    PE X (.Compare a [.Eq] [b] pos) (lift X.K W fun ρ M E Q => mtN Γ g "__eq__" 1 ∧ tx ρ M E fun x M1 => ty ρ M1 E fun y M2 => InsD M2 C x ∧ (∃ t, tyD M2 y = some t ∧ Γ.nf t C = true) ∧ mcD Γ g "__eq__" x 1 [y] M2 (fun _ _ => False) fun d M3 => ∃ c, d = .bl c ∧ Q (.bl c) M3) := by
  rcases mtN_dec Γ g "__eq__" 1 with hmt | hmt
  case inr => exact PE.never fun σ H Q ⟨ρ, M, E, Qd, R, ⟨t, _⟩, _⟩ => hmt t
  obtain ⟨a', sp, dfl, emt, k, f, fd, ps, hk, cl, me, F, hps, dvs, dss, bi, vd, rd⟩ := mt_get G hC hmt
  have rm : Room k X.A := (G.room hcm).mono (by omega)
  refine PE.imp (pe_cmpR (op_eqO (E := fun _ _ _ => False) cl me F rm bi vd (fun pins σ H s e s' I c => absurd c (G.cx0 _ _ _ _ _))) ha hb hmk) fun σ H Q ⟨ρ, M, E, Qd, R, ⟨_, t⟩, k', x'⟩ => ?_
  refine lift2 (r := fun x y H Q => ∃ a dx fs, x = .ref a ∧ H a = some (.ins C dx fs) ∧ (∃ t, TyE X.K H y t ∧ PySem.W.notFirst X.K C t = true) ∧ liftSp X.K (a' + 1) sp (.ref a :: y :: dvs) H (fun v H2 => ∃ b, v = .bl b ∧ Q (.bl b) H2) fun _ _ _ => False) (rd := fun x y M2 E Q => InsD M2 C x ∧ (∃ t, tyD M2 y = some t ∧ Γ.nf t C = true) ∧ mcD Γ g "__eq__" x 1 [y] M2 (fun _ _ => False) fun d M3 => ∃ c, d = .bl c ∧ Q (.bl c) M3) ⟨ρ, M, E, Qd, R, t, k', x'⟩ fun d e v u M2 H2 ρ E Qd R r1 r2 t k x => ?_
  obtain ⟨⟨p, fs, rfl, h1⟩, ⟨ty, h2, h3⟩, t1⟩ := t
  cases r1
  obtain ⟨dx, vfs, w1, _⟩ := R.mem _ _ h1
  unfold mcD at t1
  rw [emt] at t1
  obtain ⟨t1, t2, t3, t4⟩ := t1
  have l2 := (rd H2).length
  refine ⟨p, dx, vfs, rfl, w1, ⟨_, tyD_E R.mem r2 h2, nf_of h2 (G.nf _ _ h3)⟩, ?_, .ref p :: e :: dfl.drop (dfl.length - (a' - 1)), M2, _, _, R.mem, .cons (.ref p) (.cons r2 (rd _)), t4, fun d M' v H' e m r q => ?_, fun z M' cc dd H' e m rx q => q.elim⟩
  · rw [List.length_cons, List.length_cons, ← l2, List.length_drop]; omega
  · obtain ⟨c, rfl, q⟩ := q
    cases r
    exact ⟨c, rfl, k _ _ _ _ e (R_of' R e m) (.bl c) q⟩
theorem one_ok (G : Good CX X T Γ W lv) (hcm : T.calm = true) {g : Nat} {C : Addr} (hC : (Γ.gv g).insOf = some C) {tx ty : TD} {a b : Expr} {pos : Pos} (ha : PE X a (lift X.K W tx)) (hb : PE X b (lift X.K W ty)) (hmk : behindInMarks .NotEq b = false) :
    PE X (.Compare a [.NotEq] [b] pos) (lift X.K W fun ρ M E Q => mtN Γ g "__eq__" 1 ∧ Γ.nf (.inl "!=") C = true ∧ tx ρ M E fun x M1 => ty ρ M1 E fun y M2 => InsD M2 C x ∧ (∃ t, tyD M2 y = some t ∧ Γ.nf t C = true) ∧ mcD Γ g "__eq__" x 1 [y] M2 (fun _ _ => False) fun d M3 => ∃ c, d = .bl c ∧ Q (.bl (!c)) M3) := by
  rcases mtN_dec Γ g "__eq__" 1 with hmt | hmt
  case inr => exact PE.never fun σ H Q ⟨ρ, M, E, Qd, R, ⟨t, _⟩, _⟩ => hmt t
  obtain ⟨a', sp, dfl, emt, k, f, fd, ps, hk, cl, me, F, hps, dvs, dss, bi, vd, rd⟩ := mt_get G hC hmt
  have rm : Room (k + 1) X.A := (G.room hcm).mono (by omega)
  by_cases hz : Γ.nf (.inl "!=") C = true
  case neg => exact PE.never fun σ H Q ⟨ρ, M, E, Qd, R, ⟨_, t, _⟩, _⟩ => hz t
  have hne : neB X.K C = true := by have := G.nf _ _ hz; unfold nfX at this; rw [if_pos rfl] at this; exact this
  refine PE.imp (pe_cmpR (op_neO (E := fun _ _ _ => False) cl me hne F rm bi vd (fun pins σ H s e s' I c => absurd c (G.cx0 _ _ _ _ _))) ha hb hmk) fun σ H Q ⟨ρ, M, E, Qd, R, ⟨_, _, t⟩, k', x'⟩ => ?_
  refine lift2 (r := fun x y H Q => ∃ a dx fs, x = .ref a ∧ H a = some (.ins C dx fs) ∧ (∃ t, TyE X.K H y t ∧ PySem.W.notFirst X.K C t = true) ∧ liftSp X.K (a' + 1) sp (.ref a :: y :: dvs) H (fun v H2 => ∃ b, v = .bl b ∧ Q (.bl (!b)) H2) fun _ _ _ => False) (rd := fun x y M2 E Q => InsD M2 C x ∧ (∃ t, tyD M2 y = some t ∧ Γ.nf t C = true) ∧ mcD Γ g "__eq__" x 1 [y] M2 (fun _ _ => False) fun d M3 => ∃ c, d = .bl c ∧ Q (.bl (!c)) M3) ⟨ρ, M, E, Qd, R, t, k', x'⟩ fun d e v u M2 H2 ρ E Qd R r1 r2 t k x => ?_
  obtain ⟨⟨p, fs, rfl, h1⟩, ⟨ty, h2, h3⟩, t1⟩ := t
  cases r1
  obtain ⟨dx, vfs, w1, _⟩ := R.mem _ _ h1
  unfold mcD at t1
  rw [emt] at t1
  obtain ⟨t1, t2, t3, t4⟩ := t1
  have l2 := (rd H2).length
  refine ⟨p, dx, vfs, rfl, w1, ⟨_, tyD_E R.mem r2 h2, nf_of h2 (G.nf _ _ h3)⟩, ?_, .ref p :: e :: dfl.drop (dfl.length - (a' - 1)), M2, _, _, R.mem, .cons (.ref p) (.cons r2 (rd _)), t4, fun d M' v H' e m r q => ?_, fun z M' cc dd H' e m rx q => q.elim⟩
  · rw [List.length_cons, List.length_cons, ← l2, List.length_drop]; omega
  · obtain ⟨c, rfl, q⟩ := q
    cases r
    exact ⟨c, rfl, k _ _ _ _ e (R_of' R e m) (.bl (!c)) q⟩
theorem oeqT_ok (G : Good CX X T Γ W lv) (hcm : T.calm = true) {g : Nat} {C : Addr} (hC : (Γ.gv g).insOf = some C) {tx ty : TD} {a b : Expr} {pos : Pos} (ha : PE X a (lift X.K W tx)) (hb : PE X b (lift X.K W ty)) (hmk : behindInMarks .Eq b = false) :
    PT X (.Compare a [.Eq] [b] pos) (liftT X.K W fun ρ M E Q => mtN Γ g "__eq__" 1 ∧ tx ρ M E fun x M1 => ty ρ M1 E fun y M2 => InsD M2 C x ∧ (∃ t, tyD M2 y = some t ∧ Γ.nf t C = true) ∧ mcD Γ g "__eq__" x 1 [y] M2 (fun _ _ => False) fun d M3 => ∃ c, d = .bl c ∧ Q c M3) := by
  rcases mtN_dec Γ g "__eq__" 1 with hmt | hmt
  case inr => exact ⟨fun pins s σ H Q I ⟨ρ, M, E, Qd, R, ⟨t, _⟩, _⟩ => absurd t hmt⟩
  obtain ⟨a', sp, dfl, emt, k, f, fd, ps, hk, cl, me, F, hps, dvs, dss, bi, vd, rd⟩ := mt_get G hC hmt
  have rm : Room k X.A := (G.room hcm).mono (by omega)
  refine PT.imp (pt_cmpR (op_eqO (E := fun _ _ _ => False) cl me F rm bi vd (fun pins σ H s e s' I c => absurd c (G.cx0 _ _ _ _ _))) ha hb hmk) fun σ H Q ⟨ρ, M, E, Qd, R, ⟨_, t⟩, k', x'⟩ => ?_
  refine ⟨ρ, M, E, _, R, t, fun d M1 v H1 e1 R1 r1 t1 => ⟨ρ, M1, E, _, R1, t1, fun e M2 u H2 e2 R2 r2 t2 => ?_, fun y M' c d H' e' => x' y M' c d H' (e1.trans e')⟩, x'⟩
  obtain ⟨⟨p, fs, rfl, h1⟩, ⟨ty, h2, h3⟩, t1⟩ := t2
  cases r1
  obtain ⟨dx, vfs, w1, _⟩ := R2.mem _ _ h1
  unfold mcD at t1
  rw [emt] at t1
  obtain ⟨t1, t2, t3, t4⟩ := t1
  have l2 := (rd H2).length
  refine ⟨p, dx, vfs, rfl, w1, ⟨_, tyD_E R2.mem r2 h2, nf_of h2 (G.nf _ _ h3)⟩, ?_, .ref p :: e :: dfl.drop (dfl.length - (a' - 1)), M2, _, _, R2.mem, .cons (.ref p) (.cons r2 (rd _)), t4, fun d M' v H' ee m r q => ?_, fun z M' cc dd H' e m rx q => q.elim⟩
  · rw [List.length_cons, List.length_cons, ← l2, List.length_drop]; omega
  · obtain ⟨c, rfl, q⟩ := q
    cases r
    exact ⟨c, rfl, c, rfl, k' _ _ _ ((e1.trans e2).trans ee) (R_of' R2 ee m) q⟩
theorem run_makeNS {k n : Nat} {f C : Addr} {fd : FuncData} {ps ks : List Str} {sp : Sp} {E : L2.St → XK} {g : List Value → List Value → List Value} {gV : List V → List V → List V} {pins : List (Addr × Obj)} {σ : L2.St} {H : Hp} {s : Shared} {Q : VK} {us ws : List Value} {vs zs : List V}
    (M : Mk X.K C f) (F : FnOk X.prog X.w X.K X.mg X.base CX k f fd ps sp) (hr : Room (k + 1) X.A) (hb : KBn X.K fd ps (n + 1) ks g gV) (hx : PassesAt CX X σ (E σ)) (I : Inv X pins σ H s) (r : Vals vs us) (rz : Vals zs ws) (l1 : vs.length = n) (l2 : zs.length = ks.length)
    (h : ∀ x dx, H x = none → H dx = none → dx ≠ x → sp (gV (.ref x :: vs) zs) (upd (upd H dx (.own x)) x (.ins C dx [])) (fun v H2 => v = .non ∧ Q (.ref x) H2) (E σ)) :
    wpAny (model X.prog X.w) X.A (call (.ref C) us (ks.zip ws)) (EP X pins σ Q) X.xe s := by
  have hq := h (s.heap.objs.size + 1) s.heap.objs.size (I.hok.fresh (Nat.le_succ _)) (I.hok.fresh (Nat.le_refl _)) (Nat.ne_of_lt (Nat.lt_succ_self _))
  have I2 := Inv.made (C := C) I
  have r1 : Vals (V.ref (s.heap.objs.size + 1) :: vs) (Value.ref (s.heap.objs.size + 1) :: us) := .cons rfl r
  have r2 := hb.rel r1 rz
  have e1 : (Value.ref (s.heap.objs.size + 1) :: us).length = n + 1 := r1.length.symm.trans (congrArg Nat.succ l1)
  have e2 : ws.length = ks.length := rz.length.symm.trans l2
  refine wpAny_call (make_map (f := f) I.kIn M.makes M.init (beq_iff_eq.mp M.fn) (codeAny_mono (F.run _ X.stack _ _ ⟨Value.ref (s.heap.objs.size + 1) :: us, ks.zip ws⟩ (g (Value.ref (s.heap.objs.size + 1) :: us) ws) _ _ (E σ) (hr.make C us (ks.zip ws))
    (I2.env0.make C us (ks.zip ws)) (hb.to _ (Value.ref (s.heap.objs.size + 1) :: us) ws I2.kIn e1 e2) r2 hq) fun r s' hq' => ?_))
  cases r with
  | error e => exact hx pins _ _ e s' I2 hq'
  | ok fl =>
    cases fl with
    | ret u =>
      obtain ⟨v, H', I3, rv, ev, q3⟩ := I2.after hq'
      subst ev
      exact ⟨rv, ⟨V.ref (s.heap.objs.size + 1), H', I3, rfl, q3⟩⟩
    | next => exact False.elim hq'
    | brk => exact False.elim hq'
    | cont => exact False.elim hq'
theorem mkk_ok (G : Good CX X T Γ W lv) (hcm : T.calm = true) {g np : Nat} {x : Str} {ks : List Str} {ta tz : TDs} {e : Expr} {es : List Expr} {kws : List Keyword} {p pos : Pos} (hg : T.gn[g]? = some (x, none)) (hgl : Gl X x) (hpl : (x == ("__debug__" : Str)) = false)
    (ha : PA X (e :: es) (liftA X.K W ta)) (hz : PK X kws (liftA X.K W tz)) (hks : kws.map (·.arg) = ks.map some)
    (hst : starEach (e :: es) X.env = (false, eval e X.env) :: starEach es X.env) (hpl2 : (starEach (e :: es) X.env).any (·.1) = false) :
    PE X (.Call (.Name x p) (e :: es) kws pos) (lift X.K W fun ρ M E Q => isIns (Γ.gv g) ∧ (Γ.kwc g np ks).isSome = true ∧ ta ρ M E fun ds M1 => tz ρ M1 E fun ws M2 => mkkD Γ g np ks ds ws M2 E Q) := by
  cases hk : Γ.kwc g np ks with
  | none => exact PE.never fun σ H Q ⟨ρ, M, E, Qd, R, ⟨_, t, _⟩, _⟩ => by simp at t
  | some pat =>
    have go := G.glob g x _ hg
    cases gv : Γ.gv g with
    | fn n sp dfl => rw [gv] at go; exact go.elim
    | val d => exact PE.never fun σ H Q ⟨ρ, M, E, Qd, R, ⟨t, _⟩, _⟩ => t
    | err C fs tx => exact PE.never fun σ H Q ⟨ρ, M, E, Qd, R, ⟨t, _⟩, _⟩ => t
    | cls C => exact PE.never fun σ H Q ⟨ρ, M, E, Qd, R, ⟨t, _⟩, _⟩ => t
    | cla C i =>
      cases i with
      | none => exact PE.never fun σ H Q ⟨ρ, M, E, Qd, R, ⟨t, _⟩, _⟩ => t
      | some i =>
        obtain ⟨n', sp, dfl⟩ := i
        rw [gv] at go
        obtain ⟨k, f, fd, ps, gg, gV, hlv, Mk, F, hb, hrel⟩ := G.kwm g x np ks pat C _ hg gv hk
        have hm : X.mg x = some (.ref C) := go.1
        obtain ⟨a1, a2, a3⟩ := kw_all pos X.env hks
        refine ⟨fun pins s σ H Q I q => ?_⟩
        obtain ⟨ρ, M, E, Qd, R, ⟨_, _, t⟩, kq, kx⟩ := q
        refine wpAny_Call_Name_kw (ld_glob I hgl hm ?_ hpl)
        refine PySem.W.callWith_KW (h₀ := X.base) I.ok.mod.kin Mk.kp a1 (wpAny_mono (ha.run pos pins s σ H (fun vs H1 => ∃ ds M1, TX H H1 ∧ Rel X.K ρ M1 σ H1 ∧ Reps X.K H1 ds vs ∧ tz ρ M1 E fun ws M2 => mkkD Γ g np ks ds ws M2 E Qd) I ⟨ρ, M, E, _, R, t, fun ds M1 vs H1 e1 R1 r1 t1 => ⟨ds, M1, e1, R1, r1, t1⟩, kx⟩) (fun us s1 hh => ?_) (fun _ _ z => z)) (by rw [back_any, hpl2, a3]; rfl) hst
        obtain ⟨vs, H1, I1, rv1, ds, M1, e1, R1, r1, t1⟩ := hh
        rw [a2]
        refine wpAny_mono (hz.run pos pins s1 σ H1 (fun zs H2 => ∃ ws M2, TX H1 H2 ∧ Rel X.K ρ M2 σ H2 ∧ Reps X.K H2 ws zs ∧ mkkD Γ g np ks ds ws M2 E Qd) I1 ⟨ρ, M1, E, _, R1, t1, fun ws M2 zs H2 e2 R2 r2 t2 => ⟨ws, M2, e2, R2, r2, t2⟩, fun x M' c d H' e' => kx x M' c d H' (e1.trans e')⟩) (fun ws s2 hh => ?_) (fun _ _ z => z)
        obtain ⟨zs, H2, I2, rz, ws, M2, e2, R2, r2, t2⟩ := hh
        refine ⟨I2.kIn, ?_⟩
        unfold mkkD at t2
        rw [gv, hk] at t2
        obtain ⟨l1, l2, t2⟩ := t2
        refine run_makeNS (E := WE W) (n := np) Mk F ((G.room hcm).mono hlv) hb (G.pass σ) I2 rv1 rz (by rw [← r1.length]; exact l1) (by rw [← r2.length]; exact l2) fun y dx hy hdx hne => ?_
        have ex := TX.newI (C := C) hy hdx hne
        obtain ⟨rr, hl⟩ := hrel (upd (upd H2 dx (.own y)) y (.ins C dx [])) (.ref y) (.ref y) ds vs ws zs l1 l2 (.ref y) ((r1.mono e2).mono ex) (r2.mono ex)
        have m2 := R2.mem.newI (C := C) hy hdx hne
        refine ⟨hl, _, M2.put y (.ins C []), E, _, m2, rr, t2 y (R2.mem.free hy), fun d' M' v' H' e m r q => ?_, fun x' M' c dd H' e m rx q => kx x' M' c dd H' (((e1.trans e2).trans ex).trans e) (R_of' (R_of' R2 ex m2) e m) rx q⟩
        obtain ⟨rfl, q⟩ := q
        cases r
        exact ⟨rfl, kq _ _ _ _ (((e1.trans e2).trans ex).trans e) (R_of' (R_of' R2 ex m2) e m) (.ref y) q⟩
end
end DL
namespace DL
open PySem PySem.Spec L2
open PyProof.Rows hiding St
inductive Kd where
  | l | t
def SqK (K : PySem.W.Frag) (H : Hp) (k : Kd) (a : Addr) (xs : List V) : Prop := match k with
  | .l => SqL K H a xs
  | .t => SqT K H a xs
def ItK (k : Kd) (h : Heap) (it a : Addr) (i : Nat) : Prop := match k with
  | .l => h.IsListIter it a i
  | .t => h.IsTupleIter it a i
def SK (k : Kd) (h : Heap) (a : Addr) (its : Array Value) : Prop := match k with
  | .l => h.IsList a its
  | .t => h.IsTuple a its
def itO (k : Kd) (a : Addr) : Obj := match k with
  | .l => { cls := .type "list_iterator", data := .fields #[.ref a, .int 0 0] }
  | .t => { cls := .type "tuple_iterator", data := .fields #[.ref a, .int 0 0] }
theorem drawsK {prog : Program} {w : World} {A : Around} (hh : A.handled = none) (k : Kd) (it a : Addr) (hne : a ≠ it) (items : Array Value) :
    Draws prog w A it [it, a] items.size (fun i v => items[i]? = some v) (fun i h => ItK k h it a i ∧ SK k h a items) := by
  cases k with
  | l => exact Draws.list hh it a hne items
  | t => exact Draws.tuple hh it a hne items
theorem beginsK (k : Kd) (a : Addr) (items : Array Value) : Begins (.ref a) (itO k a) fun h => SK k h a items := by
  cases k with
  | l => exact begins_list a items
  | t => exact begins_tuple a items
theorem ItK.at_ {k : Kd} {h h' : Heap} {it a : Addr} {i : Nat} (x : ItK k h it a i) (e : ∀ o, h.get? it = some o → h'.get? it = some o) : ItK k h' it a i := by
  cases k with
  | l => exact Heap.IsListIter.at x e
  | t => exact Heap.IsTupleIter.at x e
theorem ItK.obj {k : Kd} {h : Heap} {it a : Addr} {i : Nat} (x : ItK k h it a i) : ∃ o vs, h.get? it = some o ∧ o.data = .fields vs := by
  cases k with
  | l => obtain ⟨o, e, _, d⟩ := x; exact ⟨o, _, e, d⟩
  | t => obtain ⟨o, e, _, d⟩ := x; exact ⟨o, _, e, d⟩
theorem ItK.start {k : Kd} {h : Heap} {it a : Addr} (e : h.get? it = some (itO k a)) : ItK k h it a 0 := by
  cases k with
  | l => exact ⟨_, e, rfl, rfl⟩
  | t => exact ⟨_, e, rfl, rfl⟩
theorem SK.obj {k : Kd} {h : Heap} {a : Addr} {its : Array Value} (x : SK k h a its) : ∃ o n, h.get? a = some o ∧ o.data = .seq its n := by
  cases k with
  | l => obtain ⟨o, e, _, n, d⟩ := x; exact ⟨o, n, e, d⟩
  | t => obtain ⟨o, e, _, n, d⟩ := x; exact ⟨o, n, e, d⟩
theorem SK.ne {k : Kd} {h : Heap} {a b : Addr} {its : Array Value} {o : Obj} {vs : Array Value} (x : SK k h a its) (e : h.get? b = some o) (d : o.data = .fields vs) : a ≠ b := fun q => by
  obtain ⟨u, n, e1, d1⟩ := x.obj
  rw [q, e] at e1
  cases e1
  rw [d] at d1
  cases d1
theorem seqK {X : Cx} {pins : List (Addr × Obj)} {σ : L2.St} {H : Hp} {s : Shared} {k : Kd} {a : Addr} {xs : List V} (I : Inv X pins σ H s) (h : SqK X.K H k a xs) : ∃ its : List Value, Vals xs its ∧ SK k s.heap a its.toArray := by
  cases k with
  | l => obtain ⟨its, r, p, _⟩ := I.list h; exact ⟨its, r, p.isList⟩
  | t => obtain ⟨its, r, p, _⟩ := I.tuple h; exact ⟨its, r, p⟩
theorem seqK_inj {X : Cx} {pins : List (Addr × Obj)} {σ : L2.St} {H : Hp} {s : Shared} {k : Kd} {a : Addr} {xs ys : List V} (I : Inv X pins σ H s) (h : SqK X.K H k a xs) (h' : SqK X.K H k a ys) : xs = ys := by
  cases k with
  | l => exact I.list_inj h h'
  | t => exact I.tuple_inj h h'
def IteK (K : PySem.W.Frag) (k : Kd) (a : Addr) : It :=
  ⟨fun i H => ∃ (xs : List V) (x : V), SqK K H k a xs ∧ xs[i]? = some x, fun i H v H' => ∃ T x, v = .ref T ∧ H T = none ∧ H' = upd H T (.tup [.int (i : Nat), x]) ∧ ∀ xs, SqK K H k a xs → xs[i]? = some x, fun i H => ∃ xs : List V, SqK K H k a xs ∧ xs.length = i⟩
theorem turn_enumK {P : Program} {w : World} {K : PySem.W.Frag} {elts : List Expr} {kk : Nat} {tpos : Pos} (k : Kd) (a e it : Addr) :
    Turn P w K (.Tuple elts kk tpos) (IteK K k a) [e, it] e (fun i h => (∃ old, IsEnum h e it ((i : Nat) : Int) old) ∧ ItK k h it a i ∧ e ≠ it) where
  mem := List.mem_cons_self
  obj := fun i h st b hb => by
    obtain ⟨⟨old, he⟩, hi, _⟩ := st
    obtain ⟨o, vs, ho, hd⟩ := hi.obj
    rcases List.mem_cons.mp hb with z | hb
    · subst z; exact ⟨_, he, fun v q => by cases q⟩
    · obtain rfl : b = it := List.mem_singleton.mp hb
      exact ⟨o, ho, fun v q => by rw [hd] at q; cases q⟩
  keep := fun i h h' ⟨⟨old, he⟩, hi, hne⟩ g => ⟨⟨old, g e List.mem_cons_self _ he⟩, hi.at_ fun o q => g it (List.mem_cons_of_mem _ List.mem_cons_self) o q, hne⟩
  item := by
    intro X hP hw hK hc i pins s σ H E I hf st ⟨xs, x, hq, hx⟩
    cases hP; cases hw; cases hK
    obtain ⟨⟨old, he⟩, hit, hne⟩ := st
    obtain ⟨its, rv, p⟩ := seqK I hq
    obtain ⟨u, hu, ru⟩ := rv.get hx
    obtain ⟨oi, vi, hoi, hdi⟩ := hit.obj
    have el := Heap.lt_size he
    have il := Heap.lt_size hoi
    have lt : i < its.toArray.size := by
      rcases Nat.lt_or_ge i its.length with z | z
      · simpa using z
      · rw [List.getElem?_eq_none z] at hu; cases hu
    have D := drawsK (prog := X.prog) (w := X.w) (A := X.A.in1) (I.ok.hd hc) k it a (p.ne hoi hdi) its.toArray
    refine wpAny_pyNext_enum_itemD D he ⟨hit, p⟩ lt hne (fun z => ?_) fun v h' tk hv ho hst hT hsz hk => ?_
    · rcases List.mem_cons.mp z with z | z
      · exact hne z
      · exact p.ne he rfl (List.mem_singleton.mp z).symm
    have huv : v = u := by
      have q : its.toArray[i]? = some v := hv
      have q2 : its.toArray[i]? = some u := by simpa using hu
      rw [q] at q2
      exact Option.some.inj q2
    subst huv
    refine ⟨_, rfl, wpAny_letOwnedTupleGo_enum (s := { s with heap := h', toks := tk + 1 }) ho fun h2 he2 sb => ?_⟩
    have hT2 : h2.get? s.heap.objs.size = some { cls := .type "tuple", data := .seq #[.int i tk, v] } := (sb.2 _ (Nat.ne_of_gt el)).trans hT
    have new : ObjOk X.prog X.w (upd H s.heap.objs.size (.tup [.int (i : Nat), x])) h2 s.heap.objs.size (.tup [.int (i : Nat), x]) := ⟨by show 2 ≤ sizeLine; decide, [.int i tk, v], .cons ⟨_, rfl⟩ (.cons ru .nil), ⟨_, hT2, rfl, _, rfl⟩⟩
    have I1 : Inv X pins σ (upd H s.heap.objs.size (.tup [.int (i : Nat), x])) { s with heap := h2, toks := tk + 1 } :=
      I.turnedNew (ch := [e, it]) (fun b ob hb q => by
        have b1 : b ≠ e := fun z => hb (by rw [z]; exact List.mem_cons_self)
        have b2 : b ≠ it := fun z => hb (by rw [z]; exact List.mem_cons_of_mem _ List.mem_cons_self)
        exact (sb.2 b b1).trans (hk b ob b1 b2 q)) hf (Nat.le_refl _) new
    refine ⟨.ref s.heap.objs.size, _, I1, rfl, ⟨_, x, rfl, I.hok.fresh (Nat.le_refl _), rfl, fun ys hy => by rw [seqK_inj I hy hq]; exact hx⟩, ⟨⟨v, ?_⟩, hst.1.at_ fun o q => (sb.2 it (Ne.symm hne)).trans q, hne⟩, fun b hb => ?_⟩
    · rw [show ((i + 1 : Nat) : Int) = (i : Int) + 1 by omega]; exact he2
    · have hb' : b < s.heap.objs.size := by
        rcases List.mem_cons.mp hb with z | z
        · subst z; exact el
        · rw [List.mem_singleton.mp z]; exact il
      rw [upd_ne (Nat.ne_of_lt hb')]
      exact (hf b hb).1
  done := by
    intro X hP hw hK hc i pins s σ H E I hf st ⟨xs, hq, hx⟩
    cases hP; cases hw; cases hK
    obtain ⟨⟨old, he⟩, hit, hne⟩ := st
    obtain ⟨its, rv, p⟩ := seqK I hq
    obtain ⟨oi, vi, hoi, hdi⟩ := hit.obj
    obtain ⟨f0, f1, f2, f3, f4, f5⟩ := hf it (List.mem_cons_of_mem _ List.mem_cons_self)
    have D := drawsK (prog := X.prog) (w := X.w) (A := X.A.in1) (I.ok.hd hc) k it a (p.ne hoi hdi) its.toArray
    have hl := rv.length
    have hsz : its.toArray.size = i := by simp; omega
    exact wpAny_pyNext_enum_endD D he (by rw [hsz]; exact ⟨hit, p⟩) fun h' eb => ⟨rfl, I.turned (t' := s.toks) (fun b o hb q => eb b o hb q) f0 f1 f3 f4 f5⟩
  self := fun A i s Q E ⟨⟨_, he⟩, _⟩ h => wpAny_pyIter_enum he h
end DL
namespace DL
open PySem PySem.Spec L2
open PyProof.Rows hiding St
theorem enum_new_t (l : Addr) (items : Array Value) :
    Meets (Builtin.«enumerate.__new__» ⟨[.type "enumerate", .ref l], []⟩) (fun _ R s => SK .t s.heap l items ∧ R (.ok (.ret (.ref (s.heap.push (itO .t l)).objs.size))) { s with heap := (s.heap.push (itO .t l)).push { cls := .type "enumerate", data := .fields #[.none, .bool false, .ref s.heap.objs.size, rawInt 0, .none, .none] } }) := .of_wp fun prog w A R s h => by
  obtain ⟨hp, g, d, tk, os⟩ := s
  obtain ⟨hL, h⟩ := h
  have hsub := sub_enumerate
  have hT : Heap.IsTuple (Shared.heap ⟨hp, g, d, tk, os⟩) l items := hL
  obtain ⟨ol, hl, hc, n, hd⟩ := id hT
  have e0 : ∀ {A' : Around} {E : Value → Shared → Prop} {Q : Value → Shared → Prop}, Q (.ref hp.objs.size) ⟨hp.push (itO .t l), g, d, tk, os⟩ → wpAny (model prog w) A' (pyIter (.ref l)) Q E ⟨hp, g, d, tk, os⟩ := fun q => wpAny_pyIter_tuple hT q
  wp_walk using e0
  refine wpAny_stack_any fun st => wpAny_pure ?_
  split
  · rename_i c _ _ _ _ _
    cases (c == Value.type "enumerate") <;> (wp_walk using e0; exact ⟨_, rfl, h⟩)
  · wp_walk using e0; exact ⟨_, rfl, h⟩
theorem call_enumK {prog : Program} {w : World} {A : Around} {E : Value → Shared → Prop} {s : Shared} (k : Kd) {l : Addr} {items : Array Value} {Q : Value → Shared → Prop} (hL : SK k s.heap l items)
    (h : ∀ h', IsEnum h' (s.heap.objs.size + 1) s.heap.objs.size 0 .none → ItK k h' s.heap.objs.size l 0 → h'.objs.size = s.heap.objs.size + 2 → (∀ b o, s.heap.get? b = some o → h'.get? b = some o) → Q (.ref (s.heap.objs.size + 1)) { s with heap := h' }) :
    wpAny (model prog w) A (call (.type "enumerate") [.ref l]) Q E s := by
  cases k with
  | l => exact call_enumerate_list hL h
  | t =>
    refine callType_new F.called_enumerate (by decide) (F.typeCall_enumerate_1 _) (F.newCall_enumerate_1 _) (fun obj => F.args_object_init_2 obj _) F.entry_enumerate_new (enum_new_t l items) ⟨hL, ?_⟩
    have hz : (s.heap.push (itO .t l)).objs.size = s.heap.objs.size + 1 := Heap.size_push ..
    have g0 : ∀ b o, s.heap.get? b = some o → ((s.heap.push (itO .t l)).push { cls := .type "enumerate", data := .fields #[.none, .bool false, .ref s.heap.objs.size, rawInt 0, .none, .none] }).get? b = some o := fun b o q => Heap.get?_push_of_some _ (Heap.get?_push_of_some _ q)
    have g1 : ((s.heap.push (itO .t l)).push { cls := .type "enumerate", data := .fields #[.none, .bool false, .ref s.heap.objs.size, rawInt 0, .none, .none] }).get? s.heap.objs.size = some (itO .t l) := Heap.get?_push_of_some _ (Heap.get?_push_size _ rfl)
    have g2 := Heap.get?_push_size (s.heap.push (itO .t l)) (o := { cls := .type "enumerate", data := .fields #[.none, .bool false, .ref s.heap.objs.size, rawInt 0, .none, .none] }) rfl
    show _ ∧ _
    rw [hz] at g2 ⊢
    exact ⟨⟨_, g2, rfl⟩, h _ g2 (.start (k := .t) g1) (by rw [Heap.size_push, hz]) g0⟩
def iEnumK (K : PySem.W.Frag) (ta : TA) : TI := fun σ H R => ta σ H fun vs H1 => ∃ k a xs, vs = [.ref a] ∧ SqK K H1 k a xs ∧ R (IteK K k a) H1
theorem pi_enumK {X : Cx} {e : Expr} {ta : TA} {p pos tpos : Pos} {elts : List Expr} {kk : Nat} (hg : Gl X "enumerate") (hm : X.mg "enumerate" = none) (ha : PA X [e] ta) (hs : starEach [e] X.env = [(false, eval e X.env)]) :
    PI X (.Tuple elts kk tpos) (.Call (.Name "enumerate" p) [e] [] pos) (iEnumK X.K ta) := ⟨fun pins s σ H R I h => by
  refine Call_ (ld_blt I hg hm boot_enumerate (PyProof.Rows.callWith_type1 (thn (ha.run pos pins s σ H _ I h) fun us s1 ⟨vs, H1, I1, r1, k, a, xs, ex, hq, q⟩ => ?_) hs rfl))
  subst ex
  obtain ⟨u, rfl, ru⟩ := vals1 r1
  obtain rfl : u = Value.ref a := ru
  obtain ⟨its, rv, p'⟩ := seqK I1 hq
  refine call_enumK k p' fun h' he hit hsz hk => wpAny_pyIter_enum he ?_
  refine ⟨s1.heap.objs.size + 1, [s1.heap.objs.size + 1, s1.heap.objs.size], _, _, H1, rfl, I1.kept (t' := s1.toks) hk, turn_enumK k a (s1.heap.objs.size + 1) s1.heap.objs.size, ⟨⟨.none, he⟩, hit, Nat.succ_ne_self _⟩, fun b hb => ?_, q⟩
  have hle : s1.heap.objs.size ≤ b := by
    rcases List.mem_cons.mp hb with z | z
    · rw [z]; exact Nat.le_succ _
    · rw [List.mem_singleton.mp z]; exact Nat.le_refl _
  exact I1.fpOk hle (I1.hok.fresh hle)⟩
def ItzK (K : PySem.W.Frag) (k j : Kd) (a b : Addr) : It :=
  ⟨fun i H => ∃ (xs ys : List V) (x y : V), SqK K H k a xs ∧ SqK K H j b ys ∧ xs[i]? = some x ∧ ys[i]? = some y,
    fun i H v H' => ∃ T x y, v = .ref T ∧ H T = none ∧ H' = upd H T (.tup [x, y]) ∧ (∀ xs, SqK K H k a xs → xs[i]? = some x) ∧ ∀ ys, SqK K H j b ys → ys[i]? = some y,
    fun i H => ∃ xs ys : List V, SqK K H k a xs ∧ SqK K H j b ys ∧ i = min xs.length ys.length⟩
structure Apt (z TI TO i1 i2 a b : Addr) : Prop where
  d1 : z ≠ TI ∧ z ≠ TO ∧ z ≠ i1 ∧ z ≠ i2 ∧ z ≠ a ∧ z ≠ b
  d2 : TI ≠ TO ∧ TI ≠ i1 ∧ TI ≠ i2
  d3 : TO ≠ i1 ∧ TO ≠ i2 ∧ TO ≠ a ∧ TO ≠ b
  d4 : i1 ≠ i2 ∧ i1 ≠ a ∧ i1 ≠ b ∧ i2 ≠ a ∧ i2 ≠ b
theorem apt_at (n a b : Nat) (ha : a < n) (hb : b < n) : Apt (n + 4) (n + 2) (n + 3) n (n + 1) a b := by
  refine ⟨⟨?_, ?_, ?_, ?_, ?_, ?_⟩, ⟨?_, ?_, ?_⟩, ⟨?_, ?_, ?_, ?_⟩, ?_, ?_, ?_, ?_, ?_⟩ <;> (intro (h : (_ : Nat) = (_ : Nat)); omega)
theorem Apt.sep {z TI TO i1 i2 a b : Addr} (D : Apt z TI TO i1 i2 a b) : ZipSep2 z TI TO i1 i2 [i1, a] [i2, b] where
  TIz := D.d1.1.symm
  TOz := D.d1.2.1.symm
  TITO := D.d2.1
  TIi1 := D.d2.2.1
  mem1 := List.mem_cons_self
  zf1 := by simp [D.d1.2.2.1, D.d1.2.2.2.2.1]
  Tf1 := by simp [D.d3.1, D.d3.2.2.1]
  TIi2 := D.d2.2.2
  mem2 := List.mem_cons_self
  zf2 := by simp [D.d1.2.2.2.1, D.d1.2.2.2.2.2]
  Tf2 := by simp [D.d3.2.1, D.d3.2.2.2]
  sep1_2 := by simp [D.d4.1, D.d4.2.2.1]
  sep2_1 := by simp [D.d4.1.symm, D.d4.2.2.2.1]
theorem turn_zipK {P : Program} {w : World} {K : PySem.W.Frag} {elts : List Expr} {kk : Nat} {tpos : Pos} {a b z TI TO i1 i2 : Addr} (k j : Kd) (D : Apt z TI TO i1 i2 a b) :
    Turn P w K (.Tuple elts kk tpos) (ItzK K k j a b) [z, TI, TO, i1, i2] z (fun i h => IsZip h z TI TO .none ∧ IsTupOf2 h TI (.ref i1) (.ref i2) ∧ (∃ x y, IsTupOf2 h TO x y) ∧ ItK k h i1 a i ∧ ItK j h i2 b i) where
  mem := List.mem_cons_self
  obj := fun i h ⟨hz, hTI, ⟨x, y, hTO⟩, h1, h2⟩ c hc => by
    obtain ⟨o1, v1, e1, d1⟩ := h1.obj
    obtain ⟨o2, v2, e2, d2⟩ := h2.obj
    simp only [List.mem_cons, List.not_mem_nil, or_false] at hc
    rcases hc with rfl | rfl | rfl | rfl | rfl
    · exact ⟨_, hz, fun v q => by cases q⟩
    · exact ⟨_, hTI, fun v q => by cases q⟩
    · exact ⟨_, hTO, fun v q => by cases q⟩
    · exact ⟨o1, e1, fun v q => by rw [d1] at q; cases q⟩
    · exact ⟨o2, e2, fun v q => by rw [d2] at q; cases q⟩
  keep := fun i h h' ⟨hz, hTI, ⟨x, y, hTO⟩, h1, h2⟩ g => ⟨g z (by simp) _ hz, g TI (by simp) _ hTI, ⟨x, y, g TO (by simp) _ hTO⟩, h1.at_ fun o q => g i1 (by simp) o q, h2.at_ fun o q => g i2 (by simp) o q⟩
  item := by
    intro X hP hw hK hc i pins s σ H E I hf ⟨hz, hTI, ⟨x0, y0, hTO⟩, h1, h2⟩ ⟨xs, ys, x, y, hqx, hqy, hx, hy⟩
    cases hP; cases hw; cases hK
    obtain ⟨its, rv, p⟩ := seqK I hqx
    obtain ⟨its2, rv2, p2⟩ := seqK I hqy
    obtain ⟨u, hu, ru⟩ := rv.get hx
    obtain ⟨u2, hu2, ru2⟩ := rv2.get hy
    have zl := Heap.lt_size hz
    have lt : ∀ {l : List Value} {v : Value}, l[i]? = some v → i < l.toArray.size := fun {l v} q => by
      rcases Nat.lt_or_ge i l.length with z | z
      · simpa using z
      · rw [List.getElem?_eq_none z] at q; cases q
    have D1 := drawsK (prog := X.prog) (w := X.w) (A := X.A.in1) (I.ok.hd hc) k i1 a (Ne.symm D.d4.2.1) its.toArray
    have D2 := drawsK (prog := X.prog) (w := X.w) (A := X.A.in1) (I.ok.hd hc) j i2 b (Ne.symm D.d4.2.2.2.2) its2.toArray
    refine wpAny_pyNext_zipD2_item D.sep D1 D2 hz hTI hTO ⟨h1, p⟩ ⟨h2, p2⟩ (lt hu) (lt hu2) fun v1 v2 h' tk hv1 hv2 z' TO' s1' s2' hT hsz hk => ?_
    have e1 : v1 = u := by
      have q : its.toArray[i]? = some v1 := hv1
      have q2 : its.toArray[i]? = some u := by simpa using hu
      rw [q] at q2; exact Option.some.inj q2
    have e2 : v2 = u2 := by
      have q : its2.toArray[i]? = some v2 := hv2
      have q2 : its2.toArray[i]? = some u2 := by simpa using hu2
      rw [q] at q2; exact Option.some.inj q2
    subst e1 e2
    refine ⟨_, rfl, wpAny_letOwnedTupleGo_zip (s := { s with heap := h', toks := tk }) z' fun h3 z3 sb => ?_⟩
    have hT2 : h3.get? s.heap.objs.size = some { cls := .type "tuple", data := .seq #[v1, v2] } := (sb.2 _ (Nat.ne_of_gt zl)).trans hT
    have new : ObjOk X.prog X.w (upd H s.heap.objs.size (.tup [x, y])) h3 s.heap.objs.size (.tup [x, y]) := ⟨by show 2 ≤ sizeLine; decide, [v1, v2], .cons ru (.cons ru2 .nil), ⟨_, hT2, rfl, _, rfl⟩⟩
    have kept : ∀ c o, c ∉ [z, TI, TO, i1, i2] → s.heap.get? c = some o → h3.get? c = some o := fun c o hn q => by
      simp only [List.mem_cons, List.not_mem_nil, or_false, not_or] at hn
      exact (sb.2 c hn.1).trans (hk c o hn.1 hn.2.2.1 hn.2.2.2.1 hn.2.2.2.2 q)
    have I1 : Inv X pins σ (upd H s.heap.objs.size (.tup [x, y])) { s with heap := h3, toks := tk } := I.turnedNew (ch := [z, TI, TO, i1, i2]) kept hf (Nat.le_refl _) new
    refine ⟨.ref s.heap.objs.size, _, I1, rfl, ⟨_, x, y, rfl, I.hok.fresh (Nat.le_refl _), rfl, fun l hl => by rw [seqK_inj I hl hqx]; exact hx, fun l hl => by rw [seqK_inj I hl hqy]; exact hy⟩, ⟨z3, ?_, ⟨v1, v2, ?_⟩, ?_, ?_⟩, fun c hcm => ?_⟩
    · exact (sb.2 _ D.d1.1.symm).trans (hk _ _ D.d1.1.symm D.d2.1 D.d2.2.1 D.d2.2.2 hTI)
    · exact (sb.2 _ D.d1.2.1.symm).trans TO'
    · exact s1'.1.at_ fun o q => (sb.2 _ D.d1.2.2.1.symm).trans q
    · exact s2'.1.at_ fun o q => (sb.2 _ D.d1.2.2.2.1.symm).trans q
    · have hlt : c < s.heap.objs.size := by
        obtain ⟨o1, _, g1, _⟩ := h1.obj
        obtain ⟨o2, _, g2, _⟩ := h2.obj
        have q := hcm
        simp only [List.mem_cons, List.not_mem_nil, or_false] at q
        rcases q with rfl | rfl | rfl | rfl | rfl
        · exact zl
        · exact Heap.lt_size hTI
        · exact Heap.lt_size hTO
        · exact Heap.lt_size g1
        · exact Heap.lt_size g2
      rw [upd_ne (Nat.ne_of_lt hlt)]
      exact (hf c hcm).1
  done := by
    intro X hP hw hK hc i pins s σ H E I hf ⟨hz, hTI, ⟨x0, y0, hTO⟩, h1, h2⟩ ⟨xs, ys, hqx, hqy, hend⟩
    cases hP; cases hw; cases hK
    obtain ⟨its, rv, p⟩ := seqK I hqx
    obtain ⟨its2, rv2, p2⟩ := seqK I hqy
    have l1 := rv.length
    have l2 := rv2.length
    have D1 := drawsK (prog := X.prog) (w := X.w) (A := X.A.in1) (I.ok.hd hc) k i1 a (Ne.symm D.d4.2.1) its.toArray
    have D2 := drawsK (prog := X.prog) (w := X.w) (A := X.A.in1) (I.ok.hd hc) j i2 b (Ne.symm D.d4.2.2.2.2) its2.toArray
    refine wpAny_pyNext_zipD2_end D.sep D1 D2 hz hTI hTO ⟨h1, p⟩ ⟨h2, p2⟩ (by simp; omega) (by simp; omega) (by simp; omega) fun h' tk hk => ⟨rfl, I.turnedL (t' := tk) (ch := [z, TI, TO, i1, i2]) (fun c o hn q => ?_) hf⟩
    simp only [List.mem_cons, List.not_mem_nil, or_false, not_or] at hn
    exact hk c o hn.1 hn.2.2.1 hn.2.2.2.1 hn.2.2.2.2 q
  self := fun A i s Q E st h => wpAny_pyIter_zip st.1 h
def iZipK (K : PySem.W.Frag) (ta : TA) : TI := fun σ H R => ta σ H fun vs H1 => ∃ k j a b xs ys, vs = [.ref a, .ref b] ∧ SqK K H1 k a xs ∧ SqK K H1 j b ys ∧ R (ItzK K k j a b) H1
theorem pi_zipK {X : Cx} {e e2 : Expr} {ta : TA} {p pos tpos : Pos} {elts : List Expr} {kk : Nat} (hg : Gl X "zip") (hm : X.mg "zip" = none) (ha : PA X [e, e2] ta)
    (hs : starEach [e, e2] X.env = (false, eval e X.env) :: starEach [e2] X.env) (hpl : (backTo pos (starEach [e2] X.env)).any (·.1) = false) :
    PI X (.Tuple elts kk tpos) (.Call (.Name "zip" p) [e, e2] [] pos) (iZipK X.K ta) := ⟨fun pins s σ H R I h => by
  refine Call_ (ld_blt I hg hm PyProof.Rows.boot_zip (PyProof.Rows.callWith_type1 (thn (ha.run pos pins s σ H _ I h) fun us s1 ⟨vs, H1, I1, r1, k, j, a, b, xs, ys, ex, hqx, hqy, q⟩ => ?_) hs hpl))
  subst ex
  obtain ⟨u, v, rfl, ru, rv'⟩ := vals2 r1
  obtain rfl : u = Value.ref a := ru
  obtain rfl : v = Value.ref b := rv'
  obtain ⟨its, rv, p1⟩ := seqK I1 hqx
  obtain ⟨its2, rv2, p2⟩ := seqK I1 hqy
  obtain ⟨o1, n1, g1, _⟩ := p1.obj
  obtain ⟨o2, n2, g2, _⟩ := p2.obj
  have la := Heap.lt_size g1
  have lb := Heap.lt_size g2
  refine zip_begins2 (beginsK k a its.toArray) (beginsK j b its2.toArray) p1 p2 fun h' hz hTI hTO e1 e2 hsz hk => wpAny_pyIter_zip hz ?_
  refine ⟨s1.heap.objs.size + 4, [s1.heap.objs.size + 4, s1.heap.objs.size + 2, s1.heap.objs.size + 3, s1.heap.objs.size, s1.heap.objs.size + 1], _, _, H1, rfl, I1.kept (t' := s1.toks) hk, turn_zipK k j (apt_at _ _ _ la lb), ⟨hz, hTI, ⟨_, _, hTO⟩, .start e1, .start e2⟩, fun c hcm => ?_, q⟩
  have hle : s1.heap.objs.size ≤ c := by
    simp only [List.mem_cons, List.not_mem_nil, or_false] at hcm
    rcases hcm with z | z | z | z | z
    · rw [z]; exact Nat.le_add_right _ _
    · rw [z]; exact Nat.le_add_right _ _
    · rw [z]; exact Nat.le_add_right _ _
    · rw [z]; exact Nat.le_refl _
    · rw [z]; exact Nat.le_add_right _ _
  exact I1.fpOk hle (I1.hok.fresh hle)⟩
def GS (d : D) (ds : List D) : Mm → Prop := match d with
  | .ref a => fun M => M a = some (.lst ds) ∨ M a = some (.rol ds)
  | _ => fun _ => True
theorem seqI_K {K : PySem.W.Frag} {M : Mm} {H : Hp} {d : D} {v : V} {Q : List D → (Mm → Prop) → Mm → Prop} (m : RelM K M H) (r : Rep K H d v) (h : seqI d M Q) :
    ∃ k a vs ds, v = .ref a ∧ SqK K H k a vs ∧ Reps K H ds vs ∧ Q ds (GS d ds) M ∧ ∀ M' H', TX H H' → RelM K M' H' → GS d ds M' → ∃ ws, SqK K H' k a ws ∧ Reps K H' ds ws := by
  cases d with
  | tup ds =>
    obtain ⟨p, vs, rfl, s, q⟩ := r.tup_inv
    exact ⟨.t, p, vs, ds, rfl, s, q, h, fun M' H' e _ _ => ⟨vs, e.sq s, q.mono e⟩⟩
  | ref a =>
    cases r
    obtain ⟨ds, hm, h⟩ := h
    obtain ⟨vs, s, q⟩ := m.sq hm
    exact ⟨.l, a, vs, ds, rfl, s, q, h, fun M' H' e m' g => m'.sq g⟩
  | _ => exact h.elim
section
variable {K : PySem.W.Frag} {H0 : Hp}
theorem walkR_enmK {k : Kd} {a : Addr} {ds : List D} {G : Mm → Prop} (h : ∀ M' H', TX H0 H' → RelM K M' H' → G M' → ∃ ws, SqK K H' k a ws ∧ Reps K H' ds ws) : WalkR K H0 (IteK K k a) (enmD 0 ds) G := by
  refine ⟨fun H => ∃ ws, SqK K H k a ws ∧ Reps K H ds ws, fun i H v H' => ∃ T x vs, v = .ref T ∧ H T = none ∧ H' = upd H T (.tup [.int (i : Nat), x]) ∧ Reps K H ds vs ∧ vs[i]? = some x, ⟨?_, ?_, ?_⟩, fun M H e m g => h M H e m g, ?_⟩
  · rintro i H hi ⟨vs, s, r⟩
    rw [enmD_len] at hi
    obtain ⟨x, hx⟩ := get_lt r hi
    exact ⟨vs, x, s, hx⟩
  · rintro H ⟨vs, s, r⟩
    exact ⟨vs, s, by rw [enmD_len, r.length]⟩
  · rintro i H x H' hi ⟨vs, s, r⟩ ⟨T, y, h1, h2, h3, h4⟩
    exact ⟨T, y, vs, h1, h2, h3, r, h4 vs s⟩
  · rintro i H x H' d _ hd ⟨T, y, vs, rfl, hT, rfl, r, hx⟩
    obtain ⟨e, h1, rfl⟩ := enmD_get hd
    obtain ⟨a1, a2, a3, a4⟩ := pair_new (K := K) hT (.int ((i : Nat) : Int)) (rep_at r h1 hx)
    exact ⟨a1, a2, a3, by rw [Nat.zero_add]; exact a4⟩
theorem walkR_zipK {k j : Kd} {a b : Addr} {ds es : List D} {G G' : Mm → Prop} (h : ∀ M' H', TX H0 H' → RelM K M' H' → G M' → ∃ ws, SqK K H' k a ws ∧ Reps K H' ds ws) (h' : ∀ M' H', TX H0 H' → RelM K M' H' → G' M' → ∃ ws, SqK K H' j b ws ∧ Reps K H' es ws) :
    WalkR K H0 (ItzK K k j a b) (zipD ds es) (fun M => G M ∧ G' M) := by
  refine ⟨fun H => (∃ ws, SqK K H k a ws ∧ Reps K H ds ws) ∧ ∃ ws, SqK K H j b ws ∧ Reps K H es ws, fun i H v H' => ∃ T x y vs ws, v = .ref T ∧ H T = none ∧ H' = upd H T (.tup [x, y]) ∧ Reps K H ds vs ∧ Reps K H es ws ∧ vs[i]? = some x ∧ ws[i]? = some y, ⟨?_, ?_, ?_⟩, fun M H e m g => ⟨h M H e m g.1, h' M H e m g.2⟩, ?_⟩
  · rintro i H hi ⟨⟨vs, s, r⟩, ws, t, q⟩
    rw [zipD_len] at hi
    obtain ⟨x, hx⟩ := get_lt r (Nat.lt_of_lt_of_le hi (Nat.min_le_left _ _))
    obtain ⟨y, hy⟩ := get_lt q (Nat.lt_of_lt_of_le hi (Nat.min_le_right _ _))
    exact ⟨vs, ws, x, y, s, t, hx, hy⟩
  · rintro H ⟨⟨vs, s, r⟩, ws, t, q⟩
    exact ⟨vs, ws, s, t, by rw [zipD_len, r.length, q.length]⟩
  · rintro i H x H' hi ⟨⟨vs, s, r⟩, ws, t, q⟩ ⟨T, x1, y1, h1, h2, h3, h4, h5⟩
    exact ⟨T, x1, y1, vs, ws, h1, h2, h3, r, q, h4 vs s, h5 ws t⟩
  · rintro i H x H' d _ hd ⟨T, x1, y1, vs, ws, rfl, hT, rfl, r, q, hx, hy⟩
    obtain ⟨u, v, h1, h2, rfl⟩ := zipD_get hd
    exact pair_new (K := K) hT (rep_at r h1 hx) (rep_at q h2 hy)
end
end DL
namespace HT
open PySem PySem.Spec PyProof.Rows
section
variable {prog : Program} {w : World} {A : Around} {E : Value → Shared → Prop} {s : Shared}
theorem back_parts {sl : Addr} {a b c : Value} {n : Nat} {Q : Int × Int × Nat → Shared → Prop} (hs : s.heap.IsSliceOf sl a b c) (pa : IsPart a none) (pb : IsPart b none) (pc : IsPart c (some (-1))) (k : Q ((n : Int) - 1, -1, n) s) :
    wpAny (model prog w) A (Builtin.Slice.sliceApplied (.ref sl) (pure (n : Int))) Q E s := by
  obtain ⟨o, h1, _, h3⟩ := id hs
  have ad : Builtin.Slice.sliceAdjust none none (-1) (n : Int) = ((n : Int) - 1, -1) := rfl
  have pl : Builtin.Slice.slicePlaces ((n : Int) - 1) (-1) (-1) = n := by
    unfold Builtin.Slice.slicePlaces
    rw [if_neg (by decide)]
    by_cases z : (n : Int) - 1 > -1
    · rw [if_pos z]
      have : ((n : Int) - 1 - -1 - 1) / (- -1) = (n : Int) - 1 := by rw [show (- -1 : Int) = 1 by decide, Int.ediv_one]; omega
      rw [this]; omega
    · rw [if_neg z]; omega
  unfold Builtin.Slice.sliceApplied Builtin.Slice.sliceFields
  refine wpAny_bind (wpAny_bind (wpAny_field h1 h3 (x := a) rfl (wpAny_bind (wpAny_field h1 h3 (x := b) rfl (wpAny_bind (wpAny_field h1 h3 (x := c) rfl (wpAny_pure ?_)))))))
  refine wpAny_bind (slicePart_ pc ?_)
  show wpAny _ _ (if ((-1 : Int) == 0) = true then _ else _) _ _ s
  rw [if_neg (by decide)]
  refine wpAny_bind (slicePart_ pa (wpAny_bind (slicePart_ pb (wpAny_bind (wpAny_pure ?_)))))
  show wpAny _ _ (match Builtin.Slice.sliceAdjust none none (-1) (n : Int) with | (x, y) => pure (x, (-1 : Int), Builtin.Slice.slicePlaces x y (-1))) _ _ s
  rw [ad]
  show wpAny _ _ (pure ((n : Int) - 1, (-1 : Int), Builtin.Slice.slicePlaces ((n : Int) - 1) (-1) (-1))) _ _ s
  rw [pl]
  exact wpAny_pure k
theorem fm_congr {α β : Type} {f g : α → Option β} : ∀ {l : List α}, (∀ a ∈ l, f a = g a) → l.filterMap f = l.filterMap g
  | [], _ => rfl
  | a :: l, h => by rw [List.filterMap_cons, List.filterMap_cons, h a List.mem_cons_self, fm_congr fun b hb => h b (List.mem_cons_of_mem _ hb)]
theorem back_items (xs : Array Value) : ((List.range xs.size).filterMap fun (m : Nat) => xs[((xs.size : Int) - 1 + (m : Int) * -1).toNat]?).toArray = xs.toList.reverse.toArray := by
  congr 1
  have e : ∀ m ∈ List.range xs.size, xs[((xs.size : Int) - 1 + (m : Int) * -1).toNat]? = xs.toList.reverse[m]? := fun m hm => by
    have hm : m < xs.toList.length := by rw [Array.length_toList]; exact List.mem_range.mp hm
    rw [List.getElem?_reverse hm, ← Array.getElem?_toList]
    congr 1
    rw [Array.length_toList] at hm ⊢
    omega
  rw [fm_congr e]
  have f : xs.size = xs.toList.reverse.length := by rw [List.length_reverse, Array.length_toList]
  rw [f]
  generalize xs.toList.reverse = l
  induction l with
  | nil => rfl
  | cons y l ih =>
    rw [List.length_cons, List.range_succ_eq_map, List.filterMap_cons]
    show y :: _ = _
    rw [List.filterMap_map]
    exact congrArg (y :: ·) ih
theorem getItem_tuple_back {t sl : Addr} {items : Array Value} {a b c : Value} {Q : Value → Shared → Prop} (ht : IsTup s.heap t items) (hs : s.heap.IsSliceOf sl a b c) (pa : IsPart a none) (pb : IsPart b none) (pc : IsPart c (some (-1)))
    (k : Q (.ref s.heap.objs.size) { s with heap := s.heap.push { cls := .type "tuple", data := .seq items.toList.reverse.toArray } }) (hz : items.size ≤ sizeLine) : wpAny (model prog w) A (getItem (.ref t) (.ref sl)) Q E s := by
  have ok : sizeOk (.seq items.toList.reverse.toArray) := by
    show items.toList.reverse.toArray.size ≤ sizeLine
    rw [List.size_toArray, List.length_reverse, Array.length_toList]; exact hz
  obtain ⟨o, h1, h2, h3⟩ := id hs
  have ts : s.TypeIs (.ref sl) "slice" := ⟨o, h1, h2⟩
  unfold getItem
  try with_reducible refine wpAny_holding ?_
  first | refine wpAny_bind (wpAny_pure ?_) | skip
  refine wpAny_bind (wpAny_sequenceKey ht.typeIs (by decide) ?_)
  refine wpAny_bind (wpAny_callSpecial?_slot (name := Str.ofString "__getitem__") ht.typeIs PyProof.Rows.slot_tuple_getitem (wpAny_call_entry PyProof.Rows.slot_tuple_getitem ht.typeIs entry_tuple_getitem ?_ (args_tuple_getitem _ _)))
  show wpAny _ _ (Builtin.Tuple.tupleItemsOf (.ref t) >>= _) _ _ s
  refine wpAny_bind (tupleItemsOf_ ht ?_)
  refine wpAny_bind (wpAny_typeOf ts ?_)
  rw [if_pos (by decide)]
  refine wpAny_bind (back_parts hs pa pb pc ?_)
  show wpAny _ _ (if (((items.size : Int) - 1 == 0) && (-1 : Int) == 1 && items.size == items.size) = true then _ else _) _ _ s
  have no : ¬ ((((items.size : Int) - 1 == 0) && (-1 : Int) == 1 && items.size == items.size) = true) := by
    rw [show ((-1 : Int) == 1) = false from rfl, Bool.and_false, Bool.false_and]; exact Bool.false_ne_true
  rw [if_neg no, back_items]
  first
    | exact wpAny_bind (m := Builtin.Tuple.tupleExact _) (wpAny_newObj_type (wpAny_pure ⟨_, rfl, wpAny_pure k⟩) ok)
    | exact wpAny_bind (m := Builtin.Tuple.tupleExact _) (wpAny_newObj_type (wpAny_bind (wpAny_pure (wpAny_pure ⟨_, rfl, wpAny_pure k⟩))) ok)
    | exact wpAny_bind (wpAny_bind (m := Builtin.Tuple.tupleExact _) (wpAny_newObj_type (wpAny_pure (wpAny_pure ⟨_, rfl, wpAny_pure k⟩)) ok))
    | exact wpAny_bind (wpAny_bind (m := Builtin.Tuple.tupleExact _) (wpAny_newObj_type (wpAny_pure ⟨_, rfl, wpAny_pure k⟩) ok))
end
end HT
namespace DL
open PySem PySem.Spec PyProof.Rows L2 HT
def tRevA (K : PySem.W.Frag) (te : TE) : TE := fun σ H Q => te σ H fun x H1 => ∃ a xs, x = .ref a ∧ ((SqL K H1 a xs ∧ ∀ p, H1 p = none → Q (.ref p) (upd H1 p (.lst xs.reverse))) ∨ (SqT K H1 a xs ∧ ∀ p, H1 p = none → Q (.ref p) (upd H1 p (.tup xs.reverse))))
theorem pe_revA {X : Cx} {e : Expr} {te : TE} {k : Nat} {p1 p2 p3 pos : Pos} (he : PE X e te) : PE X (.Subscript e (.Slice none none (some (.UnaryOp .USub (.Constant (.int 1) k p1) p2)) p3) pos) (tRevA X.K te) := by
  refine ⟨fun pins s σ H Q I h => ?_⟩
  refine Subscript_ (thn (he.run pins s σ H _ I h) fun v s1 ⟨x, H1, I1, r1, a, xs, ex, q⟩ => ?_)
  subst ex
  cases r1
  have back : PO X (some (.UnaryOp .USub (.Constant (.int 1) k p1) p2)) (tPart (tUn (rU fun i => .int (-i)) (tC (.int 1)))) := po_some (pe_un un_neg pe_int)
  refine wpAny_Slice (thn (po_none.run pins s1 σ H1 (fun o H2 => o = none ∧ H2 = H1) I1 ⟨rfl, rfl⟩) fun vl s2 ⟨l, H2, I2, pl, el, e2⟩ => ?_)
  subst el e2
  refine thn (po_none.run pins s2 σ H2 (fun o H3 => o = none ∧ H3 = H2) I2 ⟨rfl, rfl⟩) fun vu s3 ⟨u, H3, I3, pu, eu, e3⟩ => ?_
  subst eu e3
  refine thn (back.run pins s3 σ H3 (fun o H4 => o = some (-1) ∧ H4 = H3) I3 ⟨1, rfl, -1, rfl, rfl, rfl⟩) fun vs s4 ⟨o, H4, I4, ps, eo, e4⟩ => ?_
  subst eo e4
  have J : Inv X pins σ H4 { s4 with heap := s4.heap.push { cls := .type "slice", data := .fields #[vl, vu, vs] } } := I4.kept (t' := s4.toks) fun b ob z => Heap.get?_push_of_some _ z
  show wpAny (model X.prog X.w) X.A (subscriptTail e (.Slice none none (some (.UnaryOp .USub (.Constant (.int 1) k p1) p2)) p3) (.ref a) (.ref s4.heap.objs.size)) (EP X pins σ Q) X.xe { s4 with heap := s4.heap.push { cls := .type "slice", data := .fields #[vl, vu, vs] } }
  rcases q with ⟨hx, q⟩ | ⟨hx, q⟩
  · obtain ⟨its, r, ht, hz⟩ := J.list hx
    have hlen := r.length
    refine tail_any (ops := [.ref a, .ref s4.heap.objs.size]) ht.isList.typeIs (PySem.slot_list_getitem.lookup) ?_ (by with_unfolding_all rfl)
    refine wpAny_getItem_list_slice ht.isList (Heap.IsSliceOf.new _ vl vu vs) pl pu ps (by decide) ?_ (by rw [List.size_toArray]; omega)
    rw [PySem.W.krv_pick]
    exact ⟨.ref _, _, J.laid (t' := s4.toks) (o := .lst xs.reverse) (fun b ob z => Heap.get?_push_of_some _ z) (Nat.le_refl _) ⟨by rw [List.length_reverse]; exact hz, _, 0, r.reverse, Heap.get?_push_size _ rfl⟩, rfl, q _ (J.hok.fresh (Nat.le_refl _))⟩
  · obtain ⟨its, r, ht, hz⟩ := J.tuple hx
    have hlen := r.length
    refine tail_any (ops := [.ref a, .ref s4.heap.objs.size]) ht.typeIs (PyProof.Rows.slot_tuple_getitem.lookup) ?_ (by with_unfolding_all rfl)
    refine getItem_tuple_back ht (Heap.IsSliceOf.new _ vl vu vs) pl pu ps ?_ (by rw [List.size_toArray]; omega)
    exact ⟨.ref _, _, J.laid (t' := s4.toks) (o := .tup xs.reverse) (fun b ob z => Heap.get?_push_of_some _ z) (Nat.le_refl _) ⟨by rw [List.length_reverse]; exact hz, _, r.reverse, IsTup.new _ _⟩, rfl, q _ (J.hok.fresh (Nat.le_refl _))⟩
end DL
namespace HT
open PySem PySem.Spec PyProof.Rows RT
section
variable {prog : Program} {w : World} {A : Around} {E : Value → Shared → Prop} {s : Shared}
theorem extend_rev {R : Result → Shared → Prop} {it l : Addr} {items : Array Value} (hh : A.handled = none) (hit : s.heap.IsRevIter it l ((items.size : Int) - 1)) (hl : s.heap.IsList l items) (hne : l ≠ it) (hn : items.size ≤ sizeLine)
    (S : Addr) (hSi : S ≠ it) (hSl : S ≠ l) (res : Value) (c₀ : Nat) (hS : s.heap.get? S = some { cls := .type "list", data := .seq #[] c₀ })
    (hR : ∀ h' tk acc' c', (∀ b o, b ≠ S → b ≠ it → s.heap.get? b = some o → h'.get? b = some o) → h'.get? S = some { cls := .type "list", dict := none, data := .seq acc' c', slots := #[] } → ItemsOf (fun i v => items[items.size - 1 - i]? = some v) acc' items.size → R (.ok (.ret res)) { s with heap := h', toks := tk }) :
    wpAny (model prog w) A.in1 (Builtin.List.listExtendWith (.ref S) (.ref it) res)
      (fun fin s' => match fin with | .done f => R (.ok f) s' | .again c' => c'.quiet = true ∧ codeAny (model prog w) A c' R s') (fun e s' => R (.error e) s') s := by
  have W := (Walks.listRev (prog := prog) (w := w) (A := A.in1) hh it l hne items).toS
  have hSf : S ∉ [it, l] := by simp only [List.mem_cons, List.not_mem_nil, or_false, not_or]; exact ⟨hSi, hSl⟩
  have hT : s.TypeIs (.ref it) "list_reverseiterator" := hit.typeIs
  have h1 : Builtin.List.listSameRef (.ref S) (.ref it) = false := by simp [Builtin.List.listSameRef, hSi]
  unfold Builtin.List.listExtendWith
  refine wpAny_bind (wpAny_typeOf hT ?_)
  rw [if_neg (by rw [h1]; decide)]
  refine wpAny_bind (wpAny_pyIter_revIter hit ?_)
  refine wpAny_bind (wpAny_holding ?_)
  unfold Builtin.List.listLengthHint
  refine wpAny_bind (wpAny_specialOf hT nolen_lri ?_)
  show wpAny _ A.in1 (specialOf (Value.ref it) (Str.ofString "__length_hint__") >>= _) _ _ _
  refine wpAny_bind (wpAny_specialOf hT hint_lri ?_)
  generalize hid : ("list_reverseiterator.__length_hint__" : String) = id0
  wp_delta
  rw [show splitId id0 = some ("list_reverseiterator", "__length_hint__") from by subst hid; decide +kernel]
  subst hid
  refine wpAny_bind (wpAny_isInstance (b := true) hT (by rw [isSubtype_type]; kernel_rfl) ?_)
  refine wpAny_pure ?_
  rw [if_neg (by decide)]
  have e0 : ((items.size : Nat) : Int) - 1 - ((0 : Nat) : Int) = (items.size : Int) - 1 := by omega
  refine wpAny_pure ⟨plainId_quiet F.plain_extend_loop _, codeAny_extend_loopS W hn _ hSf _ items.size 0 _ _ _ rfl (Nat.zero_le _) ⟨Nat.zero_le _, by rw [e0]; exact hit, hl⟩ hS (ItemsOf.nil _) fun s' acc' c' hm hS' hacc => ?_⟩
  rw [Moved.eq_with hm]
  refine hR s'.heap s'.toks acc' c' (fun b o hb hb2 e => hm.heap b o (fun hmem => ?_) e) hS' hacc
  rcases List.mem_cons.mp hmem with e' | hmem
  · exact hb e'
  · exact hb2 (List.mem_singleton.mp hmem)
theorem call_list_rev {it l : Addr} {items : Array Value} {Q : Value → Shared → Prop} (hh : A.handled = none) (hit : s.heap.IsRevIter it l ((items.size : Int) - 1)) (hl : s.heap.IsList l items) (hne : l ≠ it) (hn : items.size ≤ sizeLine)
    (hQ : ∀ (h' : Heap) (tk : Nat) (acc : Array Value) (c : Nat), (∀ b o, b ≠ it → s.heap.get? b = some o → h'.get? b = some o) → h'.get? s.heap.objs.size = some { cls := .type "list", dict := none, data := .seq acc c, slots := #[] } →
      ItemsOf (fun i v => items[items.size - 1 - i]? = some v) acc items.size → Q (.ref s.heap.objs.size) { s with heap := h', toks := tk }) :
    wpAny (model prog w) A (call (.type "list") [.ref it]) Q E s := by
  refine callType_codes (Q₁ := fun obj s₁ => obj = .ref s.heap.objs.size ∧ s₁ = { s with heap := s.heap.push { cls := .type "list", data := .seq #[] } }) PySem.F.called_list (PySem.F.typeCall_list_1 _) PySem.F.entry_list_init
    (code_list_new _ ⟨rfl, rfl⟩) fun obj s₁ h₁ => ?_
  obtain ⟨rfl, rfl⟩ := h₁
  have hS : (s.heap.push { cls := .type "list", data := .seq #[] }).get? s.heap.objs.size = some { cls := .type "list", data := .seq #[] } := Heap.get?_push_size _ rfl
  obtain ⟨oi, hoi, _⟩ := id hit
  obtain ⟨ol, hol, _⟩ := id hl
  have hSi : s.heap.objs.size ≠ it := Nat.ne_of_gt (Heap.lt_size hoi)
  have hSl : s.heap.objs.size ≠ l := Nat.ne_of_gt (Heap.lt_size hol)
  refine ⟨⟨_, hS, rfl⟩, PySem.F.args_list_init_2 _ _, ?_⟩
  show wpAny _ _ (do let old ← Builtin.List.listItems (.ref s.heap.objs.size); Builtin.List.listUpdate (.ref s.heap.objs.size) (fun _ => #[]); letGo old.toList.reverse; Builtin.List.listExtendWith (.ref s.heap.objs.size) (.ref it) .none) _ _ _
  refine wpAny_bind ?_
  unfold Builtin.List.listItems
  refine wpAny_bind (wpAny_seqItems hS rfl (wpAny_pure ?_))
  show wpAny _ _ (updateSeq s.heap.objs.size (fun _ => #[]) >>= fun _ => letGo (#[] : Array Value).toList.reverse >>= fun _ => Builtin.List.listExtendWith (.ref s.heap.objs.size) (.ref it) .none) _ _ _
  refine wpAny_bind (wpAny_updateSeq hS rfl ?_)
  have hS₂ := Heap.get?_update_self (Obj.mapSeq (fun _ => (#[] : Array Value))) hS rfl
  have oth : ∀ b o, b ≠ s.heap.objs.size → s.heap.get? b = some o → ((s.heap.push { cls := .type "list", data := .seq #[] }).update s.heap.objs.size (Obj.mapSeq (fun _ => (#[] : Array Value)))).get? b = some o :=
    fun b o hb e => (Heap.get?_update_other _ _ (Ne.symm hb)).trans (Heap.get?_push_of_some _ e)
  refine wpAny_bind (wpAny_letGo ?_)
  have hit2 : ((s.heap.push { cls := .type "list", data := .seq #[] }).update s.heap.objs.size (Obj.mapSeq (fun _ => (#[] : Array Value)))).IsRevIter it l ((items.size : Int) - 1) := hit.at fun o e => oth it o (Ne.symm hSi) e
  have hl2 : ((s.heap.push { cls := .type "list", data := .seq #[] }).update s.heap.objs.size (Obj.mapSeq (fun _ => (#[] : Array Value)))).IsList l items := let ⟨o, e, x⟩ := hl; ⟨o, oth l o (Ne.symm hSl) e, x⟩
  refine extend_rev (A := A.in1) (s := { s with heap := (s.heap.push { cls := .type "list", data := .seq #[] }).update s.heap.objs.size (Obj.mapSeq (fun _ => (#[] : Array Value))) }) hh hit2 hl2 hne hn _ hSi hSl .none _ hS₂ fun h' tk acc' c' hk hS' hacc => ?_
  exact ⟨rfl, hQ h' tk acc' c' (fun b o hb e => hk b o (Nat.ne_of_lt (Heap.lt_size e)) hb (oth b o (Nat.ne_of_lt (Heap.lt_size e)) e)) hS' hacc⟩
end
end HT
namespace DL
open PySem PySem.Spec PyProof.Rows L2 HT RT
def tLstRev (K : PySem.W.Frag) (te : TE) : TE := fun σ H Q => te σ H fun v H1 => ∃ (a : Addr) (xs : List V), v = .ref a ∧ SqL K H1 a xs ∧ ∀ q, H1 q = none → Q (.ref q) (upd H1 q (.lst xs.reverse))
theorem pe_lstRev {X : Cx} {e : Expr} {te : TE} {p p2 pos pos2 : Pos} (hc : X.calm = true) (hg : Gl X "list") (hm : X.mg "list" = none) (hg2 : Gl X "reversed") (hm2 : X.mg "reversed" = none) (he : PE X e te)
    (hs : starEach [e] X.env = (false, eval e X.env) :: starEach [] X.env := by rfl)
    (hs2 : starEach [.Call (.Name "reversed" p2) [e] [] pos2] X.env = (false, eval (.Call (.Name "reversed" p2) [e] [] pos2) X.env) :: starEach [] X.env := by rfl) :
    PE X (.Call (.Name "list" p) [.Call (.Name "reversed" p2) [e] [] pos2] [] pos) (tLstRev X.K te) := by
  refine ⟨fun pins s σ H Q I h => ?_⟩
  refine Call_ (ld_blt I hg hm boot_list (PyProof.Rows.callWith_type1 (args_cons (Call_ (ld_blt I hg2 hm2 PyProof.Rows.boot_reversed (PyProof.Rows.callWith_type1 (args_cons (thn (he.run pins s σ H _ I h) fun u s1 ⟨v, H1, I1, r1, q1⟩ => args_nil ?_) hs) hs rfl))) hs2) hs2))
  obtain ⟨a, xs, ev, hq, q⟩ := q1
  subst ev
  obtain rfl : u = Value.ref a := r1
  obtain ⟨its, rv, p', hz⟩ := I1.list hq
  refine call_reversed_list p'.isList (args_nil ?_)
  have k0 : ∀ b o, s1.heap.get? b = some o → (s1.heap.push (revObj a ((its.toArray.size : Int) - 1))).get? b = some o := fun b o e => Heap.get?_push_of_some _ e
  have I2 : Inv X pins σ H1 { s1 with heap := s1.heap.push (revObj a ((its.toArray.size : Int) - 1)) } := I1.kept (t' := s1.toks) k0
  obtain ⟨f0, f1, f2, f3, f4, f5⟩ := I1.fpOk (H' := H1) (b := s1.heap.objs.size) (Nat.le_refl _) (I1.hok.fresh (Nat.le_refl _))
  have hl := p'.isList
  obtain ⟨ol, hol, _⟩ := id hl
  have hne : a ≠ s1.heap.objs.size := Nat.ne_of_lt (Heap.lt_size hol)
  have hn : its.toArray.size ≤ sizeLine := by rw [List.size_toArray, ← rv.length]; exact hz
  refine call_list_rev (s := { s1 with heap := s1.heap.push (revObj a ((its.toArray.size : Int) - 1)) }) (I1.ok.hd hc) ⟨_, Heap.get?_push_size _ rfl, rfl, rfl⟩ (hl.push _) hne hn fun h' tk acc c hk hS hi => ?_
  have hk2 : ∀ b o, s1.heap.get? b = some o → h'.get? b = some o := fun b o e => hk b o (Nat.ne_of_lt (Heap.lt_size e)) (k0 b o e)
  have hsz : (s1.heap.push (revObj a ((its.toArray.size : Int) - 1))).objs.size = s1.heap.objs.size + 1 := by simp [Heap.push]
  have hge : s1.heap.objs.size ≤ (s1.heap.push (revObj a ((its.toArray.size : Int) - 1))).objs.size := by rw [hsz]; omega
  refine ⟨.ref _, upd H1 (s1.heap.push (revObj a ((its.toArray.size : Int) - 1))).objs.size (.lst xs.reverse), I1.laid (t' := tk) hk2 hge (show ObjOk X.prog X.w _ _ _ (.lst xs.reverse) from ⟨by rw [List.length_reverse]; exact hz, acc.toList, c, vals_rev rv hi, ?_⟩), rfl, q _ (I1.hok.fresh hge)⟩
  rw [Array.toArray_toList]
  exact hS
section
variable {K : PySem.W.Frag} {H0 : Hp} {a : Addr} {xs : List V} {ds : List D}
theorem rev_at {α : Type} {l : List α} {i : Nat} (h : i < l.length) : l.reverse[i]? = l[l.length - 1 - i]? := List.getElem?_reverse h
theorem walkR_rev : WalkR K H0 (Itv K a ds.length) ds.reverse (fun M => M a = some (.lst ds) ∨ M a = some (.rol ds)) := by
  refine ⟨GL K a ds, fun i H x H' => H' = H ∧ ∃ vs, SqL K H a vs ∧ Reps K H ds vs ∧ vs[ds.length - 1 - i]? = some x, ⟨?_, ?_, ?_⟩, ?_, ?_⟩
  · rintro i H hi ⟨vs, s, r⟩
    rw [List.length_reverse] at hi
    obtain ⟨x, hx⟩ := get_lt r (i := ds.length - 1 - i) (by omega)
    exact ⟨hi, vs, x, s, hx⟩
  · rintro H ⟨vs, s, r⟩
    rw [List.length_reverse]; exact Nat.le_refl _
  · rintro i H x H' hi ⟨vs, s, r⟩ ⟨e, y⟩
    exact ⟨e, vs, s, r, y vs s⟩
  · intro M H _ m h
    exact m.sq h
  · rintro i H x H' d _ hd ⟨rfl, vs, s, r, hx⟩
    have hi : i < ds.length := by
      have := (List.getElem?_eq_some_iff.mp hd).1
      rwa [List.length_reverse] at this
    rw [rev_at hi] at hd
    exact ⟨TX.refl _, fun _ m => m, fun _ _ h => h, rep_at r hd hx⟩
theorem walkR_revT (r0 : Reps K H0 ds xs) (s0 : SqT K H0 a xs) : WalkR K H0 (ItvT K a ds.length) ds.reverse (fun _ => True) := by
  refine ⟨fun H => TX H0 H, fun i H x H' => H' = H ∧ TX H0 H ∧ xs[ds.length - 1 - i]? = some x, ⟨?_, ?_, ?_⟩, fun M H e _ _ => e, ?_⟩
  · rintro i H hi e
    rw [List.length_reverse] at hi
    obtain ⟨x, hx⟩ := get_lt r0 (i := ds.length - 1 - i) (by omega)
    exact ⟨hi, xs, x, e.sq s0, hx⟩
  · rintro H e
    rw [List.length_reverse]; exact Nat.le_refl _
  · rintro i H x H' hi e ⟨e1, y⟩
    exact ⟨e1, e, y xs (e.sq s0)⟩
  · rintro i H x H' d _ hd ⟨rfl, e, hx⟩
    have hi : i < ds.length := by
      have := (List.getElem?_eq_some_iff.mp hd).1
      rwa [List.length_reverse] at this
    rw [rev_at hi] at hd
    exact ⟨TX.refl _, fun _ m => m, fun _ _ h => h, rep_at (r0.mono e) hd hx⟩
end
end DL
namespace DL
open PySem PySem.Spec L2
section
variable {CX : CXT} {Γ : Gm} {lv : Nat}
theorem R_of {K : PySem.W.Frag} {ρ : DEnv} {M M' : Mm} {σ : St} {H H' : Hp} (R : Rel K ρ M σ H) (e : TX H H') (m : RelM K M' H') : Rel K ρ M' σ H' := ⟨R.env.mono e, m⟩
abbrev liftO (K : PySem.W.Frag) (W : WX) (td : DEnv → Mm → EK → (Option Int → Mm → Prop) → Prop) : TO := fun σ H Q => ∃ ρ M E Qd, Rel K ρ M σ H ∧ td ρ M E Qd ∧
  (∀ d M' H', TX H H' → Rel K ρ M' σ H' → Qd d M' → Q d H') ∧
  (∀ x M' cls dd H', TX H H' → Rel K ρ M' σ H' → RelX K H' x cls dd → E x M' → W cls dd σ H')
theorem PTs.imp {X : Cx} {e : List Expr} {t t' : TT} (h : PTs X e t) (i : ∀ σ H Q, t' σ H Q → t σ H Q) : PTs X e t' := ⟨fun pins s σ H Q I q => h.run pins s σ H Q I (i σ H Q q)⟩
theorem PO.imp {X : Cx} {e : Option Expr} {t t' : TO} (h : PO X e t) (i : ∀ σ H Q, t' σ H Q → t σ H Q) : PO X e t' := ⟨fun pins s σ H Q I q => h.run pins s σ H Q I (i σ H Q q)⟩
theorem form_ok {T : Tb} {m : Exs} {vs : List Expr} (hs : chkEs T m vs = true) (hn : vs.length < 30) (pos : Pos) (env : PySem.Env) : methodCallForm (vs.length + ([] : List Keyword).length) (backTo pos (starEach vs env)) (backToKw pos (keywordEach [] env)) = true := by
  have h1 := starAll_ok hs env
  have h2 : ((backTo pos (starEach vs env)).all fun x => !x.1) = true := by
    rw [List.all_eq_true]
    intro x hx
    have h3 : (backTo pos (starEach vs env)).any (·.1) = false := by rw [back_any]; exact h1
    rw [List.any_eq_false] at h3
    simpa using h3 x hx
  unfold methodCallForm
  rw [h2]
  have h4 : (backToKw pos (keywordEach [] env)) = [] := by rfl
  rw [h4]
  simp
  exact hn
mutual
theorem soundE : ∀ (m : Ex) {X : Cx} {T : Tb} {W : WX} (G : Good CX X T Γ W lv) (e : Expr), chkE T m e = true → PE X e (lift X.K W (evE Γ m))
  | .var i, X, T, W, G, e, h => by
    cases e <;> first | (simp [chkE] at h; done) | skip
    simp only [chkE, Bool.and_eq_true, decide_eq_true_eq] at h
    obtain ⟨p1, p2, _⟩ := plainN_ok h.2
    refine PE.imp (pe_var (by rw [G.n]; exact h.1.1) (G.vis h.1.2) p1 p2) fun σ H Q q => ?_
    obtain ⟨ρ, M, E, Qd, R, t, k, _⟩ := q
    simp only [evE] at t
    split at t
    · rename_i d hd
      obtain ⟨v, hv, r⟩ := R.env.at_ i d hd
      exact ⟨v, hv, k _ _ _ _ (TX.refl H) R r t⟩
    · exact t.elim
  | .int i, X, T, W, G, e, h => by
    cases e <;> first | (simp [chkE] at h; done) | skip
    rename_i c _ _
    cases c <;> simp [chkE] at h
    subst h
    refine PE.imp pe_int fun σ H Q q => ?_
    obtain ⟨ρ, M, E, Qd, R, t, k, _⟩ := q
    exact k _ _ _ _ (TX.refl H) R (.int _) t
  | .bl i, X, T, W, G, e, h => by
    cases e <;> first | (simp [chkE] at h; done) | skip
    rename_i c _ _
    cases c <;> simp [chkE] at h
    subst h
    refine PE.imp pe_bl fun σ H Q q => ?_
    obtain ⟨ρ, M, E, Qd, R, t, k, _⟩ := q
    exact k _ _ _ _ (TX.refl H) R (.bl _) t
  | .non, X, T, W, G, e, h => by
    cases e <;> first | (simp [chkE] at h; done) | skip
    rename_i c _ _
    cases c <;> simp [chkE] at h
    refine PE.imp pe_non fun σ H Q q => ?_
    obtain ⟨ρ, M, E, Qd, R, t, k, _⟩ := q
    exact k _ _ _ _ (TX.refl H) R .non t
  | .str x, X, T, W, G, e, h => by
    cases e <;> first | (simp [chkE] at h; done) | skip
    rename_i c _ _
    cases c <;> simp [chkE] at h
    subst h
    refine PE.imp pe_str fun σ H Q q => ?_
    obtain ⟨ρ, M, E, Qd, R, t, k, _⟩ := q
    exact k _ _ _ _ (TX.refl H) R (.str _) t
  | .gl g, X, T, W, G, e, h => by
    cases e <;> first | (simp [chkE] at h; done) | skip
    rename_i x pos
    simp only [chkE, Bool.and_eq_true, decide_eq_true_eq] at h
    obtain ⟨p1, p2, _⟩ := plainN_ok h.2
    have go := G.glob g x none h.1.1
    cases gv : Γ.gv g with
    | fn n sp dfl => rw [gv] at go; exact go.elim
    | err C fs tx =>
      refine PE.never fun σ H Q q => ?_
      obtain ⟨ρ, M, E, Qd, R, t, k, _⟩ := q
      simp only [evE, gv] at t
    | cls C =>
      refine PE.never fun σ H Q q => ?_
      obtain ⟨ρ, M, E, Qd, R, t, k, _⟩ := q
      simp only [evE, gv] at t
    | cla C i =>
      refine PE.never fun σ H Q q => ?_
      obtain ⟨ρ, M, E, Qd, R, t, k, _⟩ := q
      simp only [evE, gv] at t
    | val d =>
      rw [gv] at go
      obtain ⟨u, v, hm, r, rd⟩ := go
      refine PE.imp (pe_glob (G.gl h.1.2) hm r p1) fun σ H Q q => ?_
      obtain ⟨ρ, M, E, Qd, R, t, k, _⟩ := q
      simp only [evE, gv] at t
      exact k _ _ _ _ (TX.refl H) R (rd H) t
  | .op o a b, X, T, W, G, e, h => by
    cases e <;> first | (simp [chkE] at h; done) | skip
    simp only [chkE, Bool.and_eq_true, decide_eq_true_eq] at h
    obtain ⟨⟨rfl, ha⟩, hb⟩ := h
    refine PE.imp (pe_op (op_ok _) (soundE a G _ ha) (soundE b G _ hb)) fun σ H Q q => ?_
    refine lift2 (rd := fun x y M E Q => opD o x y M Q) q fun d e v u M2 H2 ρ E Qd R r1 r2 t k x => ?_
    exact ⟨d, e, M2, Qd, R.mem, r1, r2, t, fun d' M' v' H' e m r q => k _ _ _ _ e (R_of R e m) r q⟩
  | .neg a, X, T, W, G, e, h => by
    cases e <;> first | (simp [chkE] at h; done) | skip
    rename_i o a' pos
    cases o <;> first | (simp [chkE] at h; done) | skip
    simp only [chkE] at h
    refine PE.imp (pe_un un_neg (soundE a G _ h)) fun σ H Q q => ?_
    refine lift1 (rd := fun x M E Q => match x with | .int i => Q (.int (-i)) M | _ => False) q fun d v M1 H1 ρ E Qd R r1 t k x => ?_
    cases d <;> try (exact t.elim)
    cases r1
    exact ⟨_, rfl, k _ _ _ _ (TX.refl _) R (.int _) t⟩
  | .cmp o a b, X, T, W, G, e, h => by
    cases e <;> first | (exact absurd h Bool.false_ne_true) | skip
    rename_i a' um1 um2 pos
    cases um1 <;> first | (exact absurd h Bool.false_ne_true) | skip
    rename_i o' um3
    cases um3 <;> first | (exact absurd h Bool.false_ne_true) | skip
    cases um2 <;> first | (exact absurd h Bool.false_ne_true) | skip
    rename_i b' um4
    cases um4 <;> first | (exact absurd h Bool.false_ne_true) | skip
    simp only [chkE, Bool.and_eq_true, decide_eq_true_eq, Bool.not_eq_true'] at h
    obtain ⟨⟨⟨rfl, hm⟩, ha⟩, hb⟩ := h
    refine PE.imp (pe_cmpR (cmp_ok G.hu o) (soundE a G _ ha) (soundE b G _ hb) hm) fun σ H Q q => ?_
    refine lift2 (rd := fun x y M E Q => ∃ c, cmpD M o x y = some c ∧ Q (.bl c) M) q fun d e v u M2 H2 ρ E Qd R r1 r2 t k x => ?_
    exact ⟨d, e, M2, Qd, R.mem, r1, r2, t, fun d' M' v' H' e m r q => k _ _ _ _ e (R_of R e m) r q⟩
  | .chn o1 o2 a b c, X, T, W, G, e, h => by
    cases e <;> first | (exact absurd h Bool.false_ne_true) | skip
    rename_i a' um5 um6 pos
    cases um5 <;> first | (exact absurd h Bool.false_ne_true) | skip
    rename_i o1' um7
    cases um7 <;> first | (exact absurd h Bool.false_ne_true) | skip
    rename_i o2' um8
    cases um8 <;> first | (exact absurd h Bool.false_ne_true) | skip
    cases um6 <;> first | (exact absurd h Bool.false_ne_true) | skip
    rename_i b' um9
    cases um9 <;> first | (exact absurd h Bool.false_ne_true) | skip
    rename_i c' um10
    cases um10 <;> first | (exact absurd h Bool.false_ne_true) | skip
    simp only [chkE, Bool.and_eq_true, decide_eq_true_eq, Bool.not_eq_true'] at h
    obtain ⟨⟨⟨⟨⟨rfl, rfl⟩, hm⟩, ha⟩, hb⟩, hc⟩ := h
    refine PE.imp (pe_chain (cmp_ok G.hu o1) (cmp_ok G.hu o2) (soundE a G _ ha) (soundE b G _ hb) (soundE c G _ hc) hm) fun σ H Q q => ?_
    obtain ⟨ρ, M, E, Qd, R, t, k, x⟩ := q
    simp only [evE] at t
    refine ⟨ρ, M, E, _, R, t, fun d M1 v H1 e1 R1 r1 t1 => ⟨ρ, M1, E, _, R1, t1, fun e M2 u H2 e2 R2 r2 t2 => ?_, fun y M' c d H' e' => x y M' c d H' (e1.trans e')⟩, x⟩
    obtain ⟨c1, hc1, t2⟩ := t2
    refine ⟨d, e, M2, fun z M' => z = .bl c1 ∧ M' = M2, R2.mem, r1.mono e2, r2, ⟨c1, hc1, rfl, rfl⟩, fun z M' v' H' e' m' r' w => ?_⟩
    obtain ⟨rfl, rfl⟩ := w
    cases r'
    refine ⟨c1, rfl, ?_⟩
    have R3 : Rel X.K ρ M' σ H' := R_of R2 e' m'
    cases c1 with
    | false => exact k _ _ _ _ ((e1.trans e2).trans e') R3 (.bl _) t2
    | true =>
      exact ⟨ρ, M', E, _, R3, t2, fun g M3 w3 H3 e3 R3 r3 t3 => ⟨e, g, M3, Qd, R3.mem, r2.mono (e'.trans e3), r3, t3, fun d' M4 v4 H4 e4 m4 r4 q4 => k _ _ _ _ ((((e1.trans e2).trans e').trans e3).trans e4) (R_of R3 e4 m4) r4 q4⟩,
        fun y M' c d H'' e'' => x y M' c d H'' (((e1.trans e2).trans e').trans e'')⟩
  | .bop o es, X, T, W, G, e, h => by
    cases e <;> first | (simp [chkE] at h; done) | skip
    simp only [chkE, Bool.and_eq_true, decide_eq_true_eq] at h
    obtain ⟨⟨rfl, hn⟩, hs⟩ := h
    exact soundB o es G _ _ hs
  | .not a, X, T, W, G, e, h => by
    cases e <;> first | (simp [chkE] at h; done) | skip
    rename_i o a' pos
    cases o <;> first | (simp [chkE] at h; done) | skip
    simp only [chkE] at h
    refine PE.imp (pe_notT (soundE a G _ h)) fun σ H Q q => ?_
    refine lift1 (r := fun x H1 Q => ∃ k, TruV X.K x H1 k ∧ Q (.bl (!k)) H1) (rd := fun x M E Q => match x with | .bl i => Q (.bl (!i)) M | x => ∃ k, truD M x = some k ∧ Q (.bl (!k)) M) q fun d v M1 H1 ρ E Qd R r1 t k x => ?_
    have t : ∃ k, truD M1 d = some k ∧ Qd (.bl (!k)) M1 := by
      cases d <;> first | exact t | exact ⟨_, rfl, t⟩
    obtain ⟨b, hb, t⟩ := t
    exact ⟨b, truD_ok R.mem r1 hb, k _ _ _ _ (TX.refl _) R (.bl _) t⟩
  | .ite c a b, X, T, W, G, e, h => by
    cases e <;> first | (simp [chkE] at h; done) | skip
    simp only [chkE, Bool.and_eq_true] at h
    refine PE.imp (pe_ifExp (soundT c G _ h.1.1) (soundE a G _ h.1.2) (soundE b G _ h.2)) fun σ H Q q => ?_
    obtain ⟨ρ, M, E, Qd, R, t, k, x⟩ := q
    simp only [evE] at t
    refine ⟨ρ, M, E, _, R, t, fun c M1 H1 e1 R1 t1 => ?_, x⟩
    cases c with
    | true => exact ⟨ρ, M1, E, Qd, R1, t1, fun d M' v H' e' => k d M' v H' (e1.trans e'), fun y M' c d H' e' => x y M' c d H' (e1.trans e')⟩
    | false => exact ⟨ρ, M1, E, Qd, R1, t1, fun d M' v H' e' => k d M' v H' (e1.trans e'), fun y M' c d H' e' => x y M' c d H' (e1.trans e')⟩
  | .tup es, X, T, W, G, e, h => by
    cases e <;> first | (simp [chkE] at h; done) | skip
    simp only [chkE] at h
    refine PE.imp (pe_tup (soundEs es G _ h)) fun σ H Q q => ?_
    refine liftA1 (r := fun xs H1 Q => xs.length ≤ sizeLine ∧ ∀ p, H1 p = none → Q (.ref p) (upd H1 p (.tup xs))) (rd := fun ds M1 E Q => ds.length ≤ sizeLine ∧ Q (.tup ds) M1) q fun ds vs M1 H1 ρ E Qd R rs t k x => ?_
    exact ⟨by rw [← rs.length]; exact t.1, fun p hp => k _ _ _ _ (TX.new hp) (R_of R (TX.new hp) (R.mem.new hp)) (.tup (SqT.of upd_same) (rs.mono (TX.new hp))) t.2⟩
  | .lst es, X, T, W, G, e, h => by
    cases e <;> first | (simp [chkE] at h; done) | skip
    simp only [chkE] at h
    refine PE.imp (pe_lst (soundEs es G _ h)) fun σ H Q q => ?_
    refine liftA1 (r := fun xs H1 Q => xs.length ≤ sizeLine ∧ ∀ p, H1 p = none → Q (.ref p) (upd H1 p (.lst xs))) (rd := fun ds M1 E Q => ds.length ≤ sizeLine ∧ ∀ p, M1 p = none → Q (.ref p) (M1.put p (.lst ds))) q fun ds vs M1 H1 ρ E Qd R rs t k x => ?_
    exact ⟨by rw [← rs.length]; exact t.1, fun p hp => k _ _ _ _ (TX.new hp) (R_of R (TX.new hp) (R.mem.newL hp rs)) (.ref p) (t.2 p (R.mem.free hp))⟩
  | .ix a b, X, T, W, G, e, h => by
    cases e <;> first | (simp [chkE] at h; done) | skip
    simp only [chkE, Bool.and_eq_true] at h
    refine PE.imp (pe_ix ix_ok (soundE a G _ h.1) (soundE b G _ h.2) (plainIx_ok h.2)) fun σ H Q q => ?_
    refine lift2 (rd := fun x y M E Q => ixD x y M Q) q fun d e v u M2 H2 ρ E Qd R r1 r2 t k x => ?_
    exact ⟨d, e, M2, Qd, R.mem, r1, r2, t, fun d' M' v' H' e m r q => k _ _ _ _ e (R_of R e m) r q⟩
  | .slc a lo hi, X, T, W, G, e, h => by
    cases e <;> first | (exact absurd h Bool.false_ne_true) | skip
    rename_i a' um11 pos
    cases um11 <;> first | (exact absurd h Bool.false_ne_true) | skip
    rename_i lo' hi' um12 p2
    cases um12 <;> first | (exact absurd h Bool.false_ne_true) | skip
    simp only [chkE, Bool.and_eq_true] at h
    refine PE.imp (pe_slice slc_ok (soundE a G _ h.1.1) (soundO lo G _ h.1.2) (soundO hi G _ h.2)) fun σ H Q q => ?_
    obtain ⟨ρ, M, E, Qd, R, t, k, x⟩ := q
    simp only [evE] at t
    refine ⟨ρ, M, E, _, R, t, fun d M1 v H1 e1 R1 r1 t1 => ⟨ρ, M1, E, _, R1, t1, fun l M2 H2 e2 R2 t2 => ⟨ρ, M2, E, _, R2, t2, fun u M3 H3 e3 R3 t3 => ?_,
      fun y M' c d H' e' => x y M' c d H' ((e1.trans e2).trans e')⟩, fun y M' c d H' e' => x y M' c d H' (e1.trans e')⟩, x⟩
    exact ⟨d, M3, Qd, R3.mem, r1.mono (e2.trans e3), t3, fun d' M' v' H' e m r q => k _ _ _ _ (((e1.trans e2).trans e3).trans e) (R_of R3 e m) r q⟩
  | .call g es, X, T, W, G, e, h => by
    cases e <;> first | (exact absurd h Bool.false_ne_true) | (simp [chkE] at h; done) | skip
    rename_i um13 um14 um15 pos
    cases um13 <;> first | (exact absurd h Bool.false_ne_true) | (simp [chkE] at h; done) | skip
    rename_i f p
    cases um15 <;> first | (exact absurd h Bool.false_ne_true) | (simp [chkE] at h; done) | skip
    cases um14 <;> first | (exact absurd h Bool.false_ne_true) | (simp [chkE] at h; done) | skip
    rename_i v vs
    simp only [chkE, Bool.and_eq_true, decide_eq_true_eq] at h
    obtain ⟨⟨⟨⟨⟨hcm, h1⟩, h2⟩, h3⟩, _⟩, hs⟩ := h
    obtain ⟨p1, _, _⟩ := plainN_ok h3
    split at h1
    · rename_i y n k hg
      simp only [Bool.and_eq_true, decide_eq_true_eq] at h1
      obtain ⟨⟨rfl, hn⟩, hk⟩ := h1
      have go := G.glob g f _ hg
      cases gv : Γ.gv g with
      | val d => rw [gv] at go; exact go.elim
      | err C fs tx => rw [gv] at go; exact go.elim
      | cls C => rw [gv] at go; exact go.elim
      | cla C i => rw [gv] at go; exact go.elim
      | fn n' sp dfl =>
        rw [gv] at go
        obtain ⟨rfl, rfl, a, fd, ps, F, hm, hk', hps, hb⟩ := go
        obtain ⟨dvs, dss, bi, vd, rd⟩ := hb _ hk
        cases es with
        | nil => simp [chkEs] at hs
        | cons m ms =>
          have hs' := hs
          simp only [chkEs, Bool.and_eq_true] at hs'
          refine PE.imp (pe_callSD F (G.room hcm) (G.gl h2) hm hk' bi vd G.pass (soundEs (.cons m ms) G _ hs) p1 (star_ok hs'.1 vs X.env) (by rw [back_any]; exact starAll_ok hs'.2 X.env)) fun σ H Q q => ?_
          refine liftA1 (r := fun vs H1 Q => liftSp X.K n' sp (vs ++ dvs) H1 Q (WE W σ)) (rd := fun ds M1 E Q => callD (Γ.gv g) (Exs.cons m ms).len ds M1 E Q) q fun ds vs M1 H1 ρ E Qd R rs t k x => ?_
          rw [gv] at t
          obtain ⟨t1, t2, t3, t4⟩ := t
          refine ⟨?_, ds ++ _, M1, E, Qd, R.mem, rs.append (rd H1), t4, fun d M' v H' e m r q => k _ _ _ _ e (R_of R e m) r q, fun y M' c dd H' e m r q => x _ _ _ _ _ e (R_of R e m) r q⟩
          have l2 := (rd H1).length
          rw [List.length_append, ← rs.length, ← l2, List.length_drop, t3]
          omega
    · cases h1
  | .bi b es, X, T, W, G, e, h => by
    cases e <;> first | (exact absurd h Bool.false_ne_true) | (simp [chkE] at h; done) | skip
    rename_i um16 um17 um18 pos
    cases um16 <;> first | (exact absurd h Bool.false_ne_true) | (simp [chkE] at h; done) | skip
    rename_i f p
    cases um18 <;> first | (exact absurd h Bool.false_ne_true) | (simp [chkE] at h; done) | skip
    cases um17 <;> first | (exact absurd h Bool.false_ne_true) | (simp [chkE] at h; done) | skip
    rename_i v vs
    simp only [chkE, Bool.and_eq_true, decide_eq_true_eq] at h
    obtain ⟨⟨⟨⟨⟨hcm, rfl⟩, h1⟩, h2⟩, _⟩, hs⟩ := h
    cases es with
    | nil => simp [chkEs] at hs
    | cons m ms =>
      have hs' := hs
      simp only [chkEs, Bool.and_eq_true] at hs'
      have fin : ∀ {σ : St} {H : Hp} {Q : VK}, lift X.K W (evE Γ (.bi b (.cons m ms))) σ H Q → tCB (liftC X.K (biD b)) (liftA X.K W (evEs Γ (.cons m ms))) σ H Q := fun q =>
        liftA1 (rd := fun ds M1 E Q => biD b ds M1 Q) q fun ds vs M1 H1 ρ E Qd R rs t k x => ⟨ds, M1, Qd, R.mem, rs, t, fun d' M' v' H' e m r q => k _ _ _ _ e (R_of R e m) r q⟩
      have A := soundEs (.cons m ms) G _ hs
      have s1 := star_ok hs'.1 vs X.env
      have s2 : (backTo pos (starEach vs X.env)).any (·.1) = false := by rw [back_any]; exact starAll_ok hs'.2 X.env
      have hx : b ≠ .gcd → b ≠ .lcm → X.mg b.name = none := fun hb hb' => by
        rw [if_neg hb, if_neg hb'] at h1
        exact G.xn _ (by simpa using h1)
      cases b with
      | gcd =>
        rw [if_pos rfl] at h1
        exact PE.imp (pe_callBfun (bi_ok (G.calm hcm) .gcd) (G.gl h2) (G.gcd.1 h1) A (by decide) s1 s2) fun σ H Q q => fin q
      | lcm =>
        rw [if_neg (by decide), if_pos rfl] at h1
        exact PE.imp (pe_callBfun (bi_ok (G.calm hcm) .lcm) (G.gl h2) (G.gcd.2 h1) A (by decide) s1 s2) fun σ H Q q => fin q
      | int => exact PE.imp (pe_callTy (T := "int") (bi_ok (G.calm hcm) .int) (G.gl h2) (hx (by decide) (by decide)) (by decide +kernel) A (by decide) (by decide) s1 s2) fun σ H Q q => fin q
      | list => exact PE.imp (pe_callTy (T := "list") (bi_ok (G.calm hcm) .list) (G.gl h2) (hx (by decide) (by decide)) (by decide +kernel) A (by decide) (by decide) s1 s2) fun σ H Q q => fin q
      | tuple => exact PE.imp (pe_callTy (T := "tuple") (bi_ok (G.calm hcm) .tuple) (G.gl h2) (hx (by decide) (by decide)) (by decide +kernel) A (by decide) (by decide) s1 s2) fun σ H Q q => fin q
      | len => exact PE.imp (pe_callB (id := "len") (bi_ok (G.calm hcm) .len) (G.gl h2) (hx (by decide) (by decide)) (by decide +kernel) A (by decide) (by decide) s1 s2) fun σ H Q q => fin q
      | abs => exact PE.imp (pe_callB (id := "abs") (bi_ok (G.calm hcm) .abs) (G.gl h2) (hx (by decide) (by decide)) (by decide +kernel) A (by decide) (by decide) s1 s2) fun σ H Q q => fin q
      | isi => exact PE.imp (pe_callB (id := "isinstance") (bi_ok (G.calm hcm) .isi) (G.gl h2) (hx (by decide) (by decide)) (by decide +kernel) A (by decide) (by decide) s1 s2) fun σ H Q q => fin q
      | max => exact PE.imp (pe_callB (id := "max") (bi_ok (G.calm hcm) .max) (G.gl h2) (hx (by decide) (by decide)) (by decide +kernel) A (by decide) (by decide) s1 s2) fun σ H Q q => fin q
      | min => exact PE.imp (pe_callB (id := "min") (bi_ok (G.calm hcm) .min) (G.gl h2) (hx (by decide) (by decide)) (by decide +kernel) A (by decide) (by decide) s1 s2) fun σ H Q q => fin q
      | sum => exact PE.imp (pe_callB (id := "sum") (bi_ok (G.calm hcm) .sum) (G.gl h2) (hx (by decide) (by decide)) (by decide +kernel) A (by decide) (by decide) s1 s2) fun σ H Q q => fin q
      | any => exact PE.imp (pe_callB (id := "any") (bi_ok (G.calm hcm) .any) (G.gl h2) (hx (by decide) (by decide)) (by decide +kernel) A (by decide) (by decide) s1 s2) fun σ H Q q => fin q
      | str => exact PE.imp (pe_callTy (T := "str") (bi_ok (G.calm hcm) .str) (G.gl h2) (hx (by decide) (by decide)) (by decide +kernel) A (by decide) (by decide) s1 s2) fun σ H Q q => fin q
      | divmod => exact PE.imp (pe_callB (id := "divmod") (bi_ok (G.calm hcm) .divmod) (G.gl h2) (hx (by decide) (by decide)) (by decide +kernel) A (by decide) (by decide) s1 s2) fun σ H Q q => fin q
      | srt => exact PE.imp (pe_callB (id := "sorted") (bi_ok (G.calm hcm) .srt) (G.gl h2) (hx (by decide) (by decide)) (by decide +kernel) A (by decide) (by decide) s1 s2) fun σ H Q q => fin q
      | all => exact PE.imp (pe_callB (id := "all") (bi_ok (G.calm hcm) .all) (G.gl h2) (hx (by decide) (by decide)) (by decide +kernel) A (by decide) (by decide) s1 s2) fun σ H Q q => fin q
  | .mth .append a es, X, T, W, G, e, h => by
    cases e <;> first | (exact absurd h Bool.false_ne_true) | skip
    rename_i um19 um20 um21 cp
    cases um19 <;> first | (exact absurd h Bool.false_ne_true) | skip
    rename_i a' m ap
    cases um20 <;> first | (exact absurd h Bool.false_ne_true) | skip
    rename_i v um22
    cases um22 <;> first | (exact absurd h Bool.false_ne_true) | skip
    cases um21 <;> first | (exact absurd h Bool.false_ne_true) | skip
    simp only [chkE, Bool.and_eq_true, decide_eq_true_eq] at h
    obtain ⟨⟨⟨rfl, hl⟩, ha⟩, hs⟩ := h
    match es, hs with
    | .cons _ (.cons _ _), hs => simp [chkEs] at hs
    | .cons m1 .nil, hs =>
      have hs' := hs
      simp only [chkEs, Bool.and_true] at hs'
      have s1 := star_ok hs' [] X.env
      refine PE.imp (pe_bm PySem.F.plainAttrs_list PySem.F.slot_list_append PySem.F.type_list_append mt_append (soundE a G _ ha) (soundEs (.cons m1 .nil) G _ hs) (attr_ok ha _ _)
        (by rw [s1]; rfl) hl s1 (by rfl)) fun σ H Q q => ?_
      obtain ⟨ρ, M, E, Qd, R, t, k, x⟩ := q
      simp only [evE] at t
      refine ⟨ρ, M, E, _, R, t, fun d M1 v H1 e1 R1 r1 t1 => ?_, x⟩
      obtain ⟨hL, t1⟩ := t1
      cases d <;> try (exact hL.elim)
      cases r1
      obtain ⟨xs, hL⟩ := hL
      obtain ⟨vs, sq, _⟩ := R1.mem.sq hL
      refine ⟨.inl ⟨rfl, vs, sq⟩, ρ, M1, E, _, R1, t1, fun ds M2 ws H2 e2 R2 r2 t2 => ?_, fun y M' c d H' e' => x y M' c d H' (e1.trans e')⟩
      match ds, t2 with
      | [d], t2 =>
        obtain ⟨ys, h1, h2, t2⟩ := t2
        obtain ⟨w, rfl, rd⟩ := r2.one
        obtain ⟨vs, h3, rv⟩ := R2.mem _ _ h1
        have e3 : TX H2 (upd H2 _ (.lst (vs ++ [w]))) := TX.put h3 (fun _ z => by cases z) (fun _ _ z => by cases z)
        exact ⟨_, vs, w, rfl, rfl, h3, by rw [← rv.length]; exact h2, k _ _ _ _ ((e1.trans e2).trans e3) (R_of R2 e3 (R2.mem.putL h3 (rv.append (.cons rd .nil)))) .non t2⟩
  | .mth .pop a es, X, T, W, G, e, h => by
    cases e <;> first | (exact absurd h Bool.false_ne_true) | skip
    rename_i um23 um24 um25 cp
    cases um23 <;> first | (exact absurd h Bool.false_ne_true) | skip
    rename_i a' m ap
    cases um24 <;> first | (exact absurd h Bool.false_ne_true) | skip
    cases um25 <;> first | (exact absurd h Bool.false_ne_true) | skip
    simp only [chkE, Bool.and_eq_true, decide_eq_true_eq] at h
    obtain ⟨⟨⟨rfl, hl⟩, ha⟩, hs⟩ := h
    match es, hs with
    | .nil, hs =>
      refine PE.imp (pe_bm0 PySem.F.plainAttrs_list PySem.F.slot_list_pop PySem.F.type_list_pop mt_pop (soundE a G _ ha) (attr_ok ha _ _) hl) fun σ H Q q => ?_
      obtain ⟨ρ, M, E, Qd, R, t, k, x⟩ := q
      simp only [evE, evEs] at t
      refine ⟨ρ, M, E, _, R, t, fun d M1 v H1 e1 R1 r1 t1 => ?_, x⟩
      obtain ⟨hL, t1⟩ := t1
      cases d <;> try (exact hL.elim)
      cases r1
      obtain ⟨xs, y, h1, t2⟩ := t1
      obtain ⟨vs, h3, rv⟩ := R1.mem _ _ h1
      have hlen := rv.length
      rw [List.length_append, List.length_singleton] at hlen
      obtain ⟨w, hw, rw'⟩ := rv.get (i := xs.length) (d := y) (by simp)
      have e3 : TX H1 (upd H1 _ (.lst vs.dropLast)) := TX.put h3 (fun _ z => by cases z) (fun _ _ z => by cases z)
      have rr : Reps X.K H1 xs vs.dropLast := by
        have := rv.take xs.length
        rw [List.take_left] at this
        rw [List.dropLast_eq_take, ← hlen]
        simpa using this
      exact ⟨.inl ⟨rfl, vs, SqL.of h3⟩, _, vs, w, rfl, rfl, h3, by rw [← hlen]; simpa using hw, k _ _ _ _ (e1.trans e3) (R_of R1 e3 (R1.mem.putL h3 rr)) (rw'.mono e3) t2⟩
  | .mk g es, X, T, W, G, e, h => by
    cases e <;> first | (exact absurd h Bool.false_ne_true) | skip
    rename_i um26 vs um27 pos
    cases um26 <;> first | (exact absurd h Bool.false_ne_true) | skip
    rename_i f p
    cases um27 <;> first | (exact absurd h Bool.false_ne_true) | skip
    simp only [chkE, Bool.and_eq_true, decide_eq_true_eq, Bool.not_eq_true', decide_eq_false_iff_not] at h
    obtain ⟨⟨⟨⟨⟨hcm, _⟩, h1⟩, h2⟩, h3⟩, hs⟩ := h
    obtain ⟨p1, _, _⟩ := plainN_ok h3
    refine mk_ok G hcm h1 (G.gl h2) p1 (soundEs es G vs hs) ?_
    cases vs with
    | nil =>
      cases es with
      | nil => exact .inl ⟨rfl, rfl, fun ρ M E Q h => h⟩
      | cons m ms => simp [chkEs] at hs
    | cons v vs =>
      cases es with
      | nil => simp [chkEs] at hs
      | cons m ms =>
        simp only [chkEs, Bool.and_eq_true] at hs
        exact .inr ⟨v, vs, rfl, star_ok hs.1 vs X.env, by rw [back_any]; exact starAll_ok hs.2 X.env⟩
  | .mkk g es ks zs, X, T, W, G, e, h => by
    cases e <;> first | (exact absurd h Bool.false_ne_true) | (simp [chkE] at h; done) | skip
    rename_i um28 um29 kws pos
    cases um28 <;> first | (exact absurd h Bool.false_ne_true) | (simp [chkE] at h; done) | skip
    rename_i f p
    cases um29 <;> first | (exact absurd h Bool.false_ne_true) | (simp [chkE] at h; done) | skip
    rename_i v vs
    simp only [chkE, Bool.and_eq_true, decide_eq_true_eq] at h
    obtain ⟨⟨⟨⟨⟨⟨⟨⟨hcm, h1⟩, h2⟩, h3⟩, _⟩, _⟩, hks⟩, hs⟩, hz⟩ := h
    obtain ⟨p1, _, _⟩ := plainN_ok h3
    cases es with
    | nil => simp [chkEs] at hs
    | cons m ms =>
      have hs' := hs
      simp only [chkEs, Bool.and_eq_true] at hs'
      exact mkk_ok G hcm h1 (G.gl h2) p1 (soundEs (.cons m ms) G (v :: vs) hs) (soundK zs G kws hz) hks (star_ok hs'.1 vs X.env) (starAll_ok hs X.env)
  | .mc g a m es, X, T, W, G, e, h => by
    cases e <;> first | (exact absurd h Bool.false_ne_true) | skip
    rename_i um30 vs um31 cp
    cases um30 <;> first | (exact absurd h Bool.false_ne_true) | skip
    rename_i a' m' ap
    cases um31 <;> first | (exact absurd h Bool.false_ne_true) | skip
    simp only [chkE, Bool.and_eq_true, decide_eq_true_eq] at h
    obtain ⟨⟨⟨⟨⟨⟨hcm, rfl⟩, hl⟩, hn⟩, _⟩, ha⟩, hs⟩ := h
    cases hc : (Γ.gv g).insOf with
    | none => exact PE.never fun σ H Q ⟨ρ, M, E, Qd, R, t, _⟩ => by simp only [evE, hc] at t
    | some C =>
      have key := mc_ok (m := m) (n := es.len) G hcm hc (soundE a G a' ha) (soundEs es G vs hs) (attr_ok ha _ _) hl (by
        cases vs with
        | nil =>
          cases es with
          | nil => exact .inl ⟨rfl, rfl, fun ρ M E Q h => h⟩
          | cons m ms => simp [chkEs] at hs
        | cons v vs =>
          cases es with
          | nil => simp [chkEs] at hs
          | cons m ms =>
            have hs' := hs
            simp only [chkEs, Bool.and_eq_true] at hs'
            refine .inr ⟨v, vs, rfl, star_ok hs'.1 vs X.env, by rw [back_any]; exact starAll_ok hs'.2 X.env, ?_⟩
            exact form_ok hs hn cp X.env)
      exact PE.imp key fun σ H Q ⟨ρ, M, E, Qd, R, t, k, x⟩ => ⟨ρ, M, E, Qd, R, by simp only [evE, hc] at t; exact t, k, x⟩
  | .prp g a f, X, T, W, G, e, h => by
    cases e <;> first | (simp [chkE] at h; done) | skip
    simp only [chkE, Bool.and_eq_true, decide_eq_true_eq] at h
    obtain ⟨⟨⟨hcm, rfl⟩, _⟩, ha⟩ := h
    cases hc : (Γ.gv g).insOf with
    | none => exact PE.never fun σ H Q ⟨ρ, M, E, Qd, R, t, _⟩ => by simp only [evE, hc] at t
    | some C => exact PE.imp (pr_ok (f := f) G hcm hc (soundE a G _ ha) (attr_ok ha _ _)) fun σ H Q ⟨ρ, M, E, Qd, R, t, k, x⟩ => ⟨ρ, M, E, Qd, R, by simp only [evE, hc] at t; exact t, k, x⟩
  | .lno g a, X, T, W, G, e, h => by
    cases e <;> first | (exact absurd h Bool.false_ne_true) | skip
    rename_i um32 um33 um34 pos
    cases um32 <;> first | (exact absurd h Bool.false_ne_true) | skip
    rename_i f p
    cases um33 <;> first | (exact absurd h Bool.false_ne_true) | skip
    rename_i a' um35
    cases um35 <;> first | (exact absurd h Bool.false_ne_true) | skip
    cases um34 <;> first | (exact absurd h Bool.false_ne_true) | skip
    simp only [chkE, Bool.and_eq_true, decide_eq_true_eq] at h
    obtain ⟨⟨⟨⟨⟨hcm, rfl⟩, hx⟩, hg⟩, _⟩, ha⟩ := h
    cases hc : (Γ.gv g).insOf with
    | none => exact PE.never fun σ H Q ⟨ρ, M, E, Qd, R, t, _⟩ => by simp only [evE, hc] at t
    | some C => exact PE.imp (lno_ok G hcm hc (soundE a G _ ha) (G.gl hg) (G.xn _ (by simpa using hx)) (star_ok ha [] X.env)) fun σ H Q ⟨ρ, M, E, Qd, R, t, k, x⟩ => ⟨ρ, M, E, Qd, R, by simp only [evE, hc] at t; exact t, k, x⟩
  | .iso a g, X, T, W, G, e, h => by
    cases e <;> first | (exact absurd h Bool.false_ne_true) | skip
    rename_i um36 um37 um38 pos
    cases um36 <;> first | (exact absurd h Bool.false_ne_true) | skip
    rename_i f p
    cases um37 <;> first | (exact absurd h Bool.false_ne_true) | skip
    rename_i a' um39
    cases um39 <;> first | (exact absurd h Bool.false_ne_true) | skip
    rename_i um40 um41
    cases um40 <;> first | (exact absurd h Bool.false_ne_true) | skip
    rename_i y py
    cases um41 <;> first | (exact absurd h Bool.false_ne_true) | skip
    cases um38 <;> first | (exact absurd h Bool.false_ne_true) | skip
    simp only [chkE, Bool.and_eq_true, decide_eq_true_eq] at h
    obtain ⟨⟨⟨⟨⟨⟨⟨hcm, rfl⟩, hx⟩, hg⟩, hy⟩, hgy⟩, hpy⟩, ha⟩ := h
    obtain ⟨p1, _, _⟩ := plainN_ok hpy
    have go := G.glob g y none hy
    cases hc : (Γ.gv g).insOf with
    | none => exact PE.never fun σ H Q ⟨ρ, M, E, Qd, R, t, _⟩ => by simp only [evE, hc] at t
    | some C =>
      have hm : X.mg y = some (.ref C) := by
        cases gv : Γ.gv g with
        | cla D i => rw [gv] at hc go; cases hc; exact go.1
        | _ => rw [gv] at hc; cases hc
      exact PE.imp (iso_ok (C := C) G (soundE a G _ ha) (G.gl hg) (G.xn _ (by simpa using hx)) (G.gl hgy) hm p1 (fun es => star_ok ha es X.env)) fun σ H Q ⟨ρ, M, E, Qd, R, t, k, x⟩ => ⟨ρ, M, E, Qd, R, by simp only [evE, hc] at t; exact t, k, x⟩
  | .oeq g a b, X, T, W, G, e, h => by
    cases e <;> first | (exact absurd h Bool.false_ne_true) | skip
    rename_i a' um42 um43 pos
    cases um42 <;> first | (exact absurd h Bool.false_ne_true) | skip
    rename_i um44 um45
    cases um44 <;> first | (exact absurd h Bool.false_ne_true) | skip
    cases um45 <;> first | (exact absurd h Bool.false_ne_true) | skip
    cases um43 <;> first | (exact absurd h Bool.false_ne_true) | skip
    rename_i b' um46
    cases um46 <;> first | (exact absurd h Bool.false_ne_true) | skip
    simp only [chkE, Bool.and_eq_true, Bool.not_eq_true'] at h
    obtain ⟨⟨⟨⟨hcm, hm⟩, _⟩, ha⟩, hb⟩ := h
    cases hc : (Γ.gv g).insOf with
    | none => exact PE.never fun σ H Q ⟨ρ, M, E, Qd, R, t, _⟩ => by simp only [evE, hc] at t
    | some C => exact PE.imp (oeq_ok G hcm hc (soundE a G _ ha) (soundE b G _ hb) hm) fun σ H Q ⟨ρ, M, E, Qd, R, t, k, x⟩ => ⟨ρ, M, E, Qd, R, by simp only [evE, hc] at t; exact t, k, x⟩
  | .one g a b, X, T, W, G, e, h => by
    cases e <;> first | (exact absurd h Bool.false_ne_true) | skip
    rename_i a' um42 um43 pos
    cases um42 <;> first | (exact absurd h Bool.false_ne_true) | skip
    rename_i um44 um45
    cases um44 <;> first | (exact absurd h Bool.false_ne_true) | skip
    cases um45 <;> first | (exact absurd h Bool.false_ne_true) | skip
    cases um43 <;> first | (exact absurd h Bool.false_ne_true) | skip
    rename_i b' um46
    cases um46 <;> first | (exact absurd h Bool.false_ne_true) | skip
    simp only [chkE, Bool.and_eq_true, Bool.not_eq_true'] at h
    obtain ⟨⟨⟨⟨hcm, hm⟩, _⟩, ha⟩, hb⟩ := h
    cases hc : (Γ.gv g).insOf with
    | none => exact PE.never fun σ H Q ⟨ρ, M, E, Qd, R, t, _⟩ => by simp only [evE, hc] at t
    | some C => exact PE.imp (one_ok G hcm hc (soundE a G _ ha) (soundE b G _ hb) hm) fun σ H Q ⟨ρ, M, E, Qd, R, t, k, x⟩ => ⟨ρ, M, E, Qd, R, by simp only [evE, hc] at t; exact t, k, x⟩
  | .fld a f, X, T, W, G, e, h => by
    cases e <;> first | (simp [chkE] at h; done) | skip
    simp only [chkE, Bool.and_eq_true, decide_eq_true_eq] at h
    obtain ⟨rfl, ha⟩ := h
    refine PE.imp (pe_fld (soundE a G _ ha) (attr_ok ha _ _)) fun σ H Q q => ?_
    refine lift1 (r := fun x H1 Q => ∃ a C dx fs v, x = .ref a ∧ H1 a = some (.ins C dx fs) ∧ Cls X.K C ∧ NoAttr X.K C f ∧ fs.lookup f = some v ∧ Q v H1)
      (rd := fun x M1 E Q => match x with | .ref p => ∃ C fs d, M1 p = some (.ins C fs) ∧ Γ.fld C f ∧ fs.lookup f = some d ∧ Q d M1 | _ => False) q fun d v M1 H1 ρ E Qd R r1 t k x => ?_
    cases d <;> try (exact t.elim)
    cases r1
    obtain ⟨C, fs, d, h1, h2, h3, t⟩ := t
    obtain ⟨dx, vfs, h4, _, h5, _⟩ := R.mem _ _ h1
    obtain ⟨v, h6, r⟩ := h5 _ _ h3
    exact ⟨_, C, dx, vfs, v, rfl, h4, (G.fld _ _ h2).1, (G.fld _ _ h2).2, h6, k _ _ _ _ (TX.refl _) R r t⟩
  | .lc own tg it c e', X, T, W, G, e, h => by
    cases e <;> first | (exact absurd h Bool.false_ne_true) | skip
    rename_i elt um47 scope pos
    cases um47 <;> first | (exact absurd h Bool.false_ne_true) | skip
    rename_i um48 um49
    obtain ⟨tg', it', ifs, asy⟩ := um48
    cases um49 <;> first | (exact absurd h Bool.false_ne_true) | skip
    simp only [chkE, Bool.and_eq_true, decide_eq_true_eq] at h
    obtain ⟨⟨⟨⟨⟨⟨⟨hcm, rfl⟩, hb⟩, hss⟩, ht⟩, hi⟩, hc⟩, he⟩ := h
    have hss' : ∀ i ∈ tg.ss, i ∈ own := fun i hi => by simpa using List.all_eq_true.mp hss i hi
    refine PE.imp (pe_lc (own := T.own own) (te := lift X.K W0 (evE Γ e')) (tt := liftT X.K W0 (evC Γ c)) (g := liftG X.K tg.ss (tgD tg)) (G.calm hcm) G.nd (soundI it G tg' it' hi) (by rw [G.n, G.sc]; exact blkOk_by hb)
      (fun s H C cl fp => soundG (G.blk hcm s H scope C cl fp) tg tg' ht) (fun s H C cl fp => soundC c (G.blk hcm s H scope C cl fp) ifs hc) (fun s H C cl fp => soundE e' (G.blk hcm s H scope C cl fp) elt he) (iter_ok hi X.env)) fun σ H Q q => ?_
    obtain ⟨ρ, M, E, Qd, R, t, k, x⟩ := q
    simp only [evE] at t
    refine ⟨ρ, M, E, _, R, t, fun items G' M1 J H1 e1 R1 w t1 => ?_, x⟩
    intro p hp
    rw [own_map]
    refine comp_ok w R1 hp (t1 p (R1.mem.free hp)) (fun M5 H5 e5 m5 q5 => k _ _ _ _ (e1.trans e5) (R_of R1 e5 m5) (.ref p) q5) fun d xv M H2 H3 Kk Nx e2 m2 rx st kk => ?_
    refine ⟨d, wipeD ρ own, M, _, rx, ⟨wipe_rel (R1.env.mono e2) own, m2⟩, st, fun ρ2 σ2 R2 l2 s2 t2 => ⟨wipe_back hss' l2 s2, ρ2, M, E0, _, R2, t2, fun b M3 H4 e3 R3 t3 => ?_, fun _ _ _ _ _ _ _ _ z => z.elim⟩⟩
    cases b with
    | true => exact ⟨ρ2, M3, E0, _, R3, t3, fun d4 M4 v4 H5 e4 R4 r4 t4 => kk (some d4) M4 (some v4) H5 ((e2.trans e3).trans e4) R4.mem r4 t4, fun _ _ _ _ _ _ _ _ z => z.elim⟩
    | false => exact kk none M3 none H4 (e2.trans e3) R3.mem trivial t3
  | .callk g es ks zs, X, T, W, G, e, h => by
    cases e <;> first | (exact absurd h Bool.false_ne_true) | skip
    rename_i um50 vs kws pos
    cases um50 <;> first | (exact absurd h Bool.false_ne_true) | skip
    rename_i x p
    simp only [chkE, Bool.and_eq_true, decide_eq_true_eq] at h
    obtain ⟨⟨⟨⟨⟨⟨⟨hcm, hg⟩, hgl⟩, hpl⟩, hne⟩, hks⟩, hes⟩, hzs⟩ := h
    cases hgn : T.gn[g]? with
    | none => rw [hgn] at hg; cases hg
    | some yo =>
      obtain ⟨y, o⟩ := yo
      rw [hgn] at hg
      cases o with
      | none => cases hg
      | some nk =>
        have e : x = y := by simpa using hg
        subst e
        refine kw_ok G hcm hgn (G.gl hgl) (plainN_ok hpl).1 (soundEs es G vs hes) (soundK zs G kws hzs) hks ?_
        cases vs with
        | nil =>
          cases es with
          | nil => exact .inl ⟨rfl, fun ρ M E Q t => t⟩
          | cons m ms => simp [chkEs] at hes
        | cons v vs =>
          cases es with
          | nil => simp [chkEs] at hes
          | cons m ms =>
            have hs' := hes
            simp only [chkEs, Bool.and_eq_true] at hs'
            exact .inr ⟨v, vs, rfl, star_ok hs'.1 vs X.env, starAll_ok hes X.env⟩
  | .tyn t, X, T, W, G, e, h => by
    cases e <;> first | (simp [chkE] at h; done) | skip
    rename_i x pos
    simp only [chkE, Bool.and_eq_true, decide_eq_true_eq] at h
    obtain ⟨⟨⟨ht, rfl⟩, hx⟩, hg⟩ := h
    have nm : X.mg (Str.ofString t.nm) = none := G.xn _ (by simpa using hx)
    refine PE.imp (pe_bltn (v := .ty t.nm) (u := .type t.nm) (G.gl hg) nm (by cases t <;> first | (exact absurd rfl ht) | decide +kernel) rfl (by cases t <;> decide) (by cases t <;> decide)) fun σ H Q q => ?_
    obtain ⟨ρ, M, E, Qd, R, t1, k, _⟩ := q
    simp only [evE] at t1
    exact k _ _ _ _ (TX.refl H) R (.ty _) t1
  | .rev a, X, T, W, G, e, h => by
    cases e <;> first | (exact absurd h Bool.false_ne_true) | skip
    rename_i a' um51 pos
    cases um51 <;> first | (exact absurd h Bool.false_ne_true) | skip
    rename_i um52 um53 um54 p3
    cases um52 <;> first | (exact absurd h Bool.false_ne_true) | skip
    cases um53 <;> first | (exact absurd h Bool.false_ne_true) | skip
    cases um54 <;> first | (exact absurd h Bool.false_ne_true) | skip
    rename_i um55
    cases um55 <;> first | (exact absurd h Bool.false_ne_true) | skip
    rename_i um56 um57 p2
    cases um56 <;> first | (exact absurd h Bool.false_ne_true) | skip
    cases um57 <;> first | (exact absurd h Bool.false_ne_true) | skip
    rename_i um58 k1 p1
    cases um58 <;> first | (exact absurd h Bool.false_ne_true) | skip
    rename_i j
    simp only [chkE, Bool.and_eq_true, decide_eq_true_eq] at h
    obtain ⟨rfl, ha⟩ := h
    refine PE.imp (pe_revA (soundE a G a' ha)) fun σ H Q q => ?_
    refine lift1 (r := fun x H1 Q => ∃ a xs, x = .ref a ∧ ((SqL X.K H1 a xs ∧ ∀ p, H1 p = none → Q (.ref p) (upd H1 p (.lst xs.reverse))) ∨ (SqT X.K H1 a xs ∧ ∀ p, H1 p = none → Q (.ref p) (upd H1 p (.tup xs.reverse))))) (rd := fun x M1 E Q => revD x M1 Q) q fun d v M1 H1 ρ E Qd R r1 t k x => ?_
    cases d <;> try (exact t.elim)
    · obtain ⟨a, vs, rfl, s1, q1⟩ := r1.tup_inv
      exact ⟨_, vs, rfl, .inr ⟨s1, fun p hp => k _ _ _ _ (TX.new hp) (R_of R (TX.new hp) (R.mem.new hp)) (.tup (SqT.of upd_same) ((Reps.rev q1).mono (TX.new hp))) t⟩⟩
    · cases r1
      obtain ⟨ds, hm, t⟩ := t
      obtain ⟨vs, sq, rs⟩ := R.mem.sq hm
      exact ⟨_, vs, rfl, .inl ⟨sq, fun p hp => k _ _ _ _ (TX.new hp) (R_of R (TX.new hp) (R.mem.newL hp (Reps.rev rs))) (.ref _) (t p (R.mem.free hp))⟩⟩
  | .lrv a, X, T, W, G, e, h => by
    cases e <;> first | (exact absurd h Bool.false_ne_true) | skip
    rename_i um59 um60 um61 pos
    cases um59 <;> first | (exact absurd h Bool.false_ne_true) | skip
    rename_i f p
    cases um60 <;> first | (exact absurd h Bool.false_ne_true) | skip
    rename_i um62 um63
    cases um62 <;> first | (exact absurd h Bool.false_ne_true) | skip
    rename_i um64 um65 um66 pos2
    cases um64 <;> first | (exact absurd h Bool.false_ne_true) | skip
    rename_i f2 p2
    cases um65 <;> first | (exact absurd h Bool.false_ne_true) | skip
    rename_i a' um67
    cases um67 <;> first | (exact absurd h Bool.false_ne_true) | skip
    cases um66 <;> first | (exact absurd h Bool.false_ne_true) | skip
    cases um63 <;> first | (exact absurd h Bool.false_ne_true) | skip
    cases um61 <;> first | (exact absurd h Bool.false_ne_true) | skip
    simp only [chkE, Bool.and_eq_true, decide_eq_true_eq] at h
    obtain ⟨⟨⟨⟨⟨⟨⟨hc, rfl⟩, rfl⟩, h1⟩, h2⟩, h3⟩, h4⟩, ha⟩ := h
    refine PE.imp (pe_lstRev (G.calm hc) (G.gl h2) (G.xn _ (by simpa using h1)) (G.gl h4) (G.xn _ (by simpa using h3)) (soundE a G a' ha) (star_ok ha [] X.env) rfl) fun σ H Q q => ?_
    refine lift1 (r := fun x H1 Q => ∃ a xs, x = .ref a ∧ SqL X.K H1 a xs ∧ ∀ p, H1 p = none → Q (.ref p) (upd H1 p (.lst xs.reverse))) (rd := fun x M1 E Q => lrvD x M1 Q) q fun d v M1 H1 ρ E Qd R r1 t k x => ?_
    cases d <;> try (exact t.elim)
    · cases r1
      obtain ⟨ds, hm, t⟩ := t
      obtain ⟨vs, sq, rs⟩ := R.mem.sq hm
      exact ⟨_, vs, rfl, sq, fun p hp => k _ _ _ _ (TX.new hp) (R_of R (TX.new hp) (R.mem.newL hp (Reps.rev rs))) (.ref _) (t p (R.mem.free hp))⟩
  | .fmt a, X, T, W, G, e, h => by
    cases e <;> first | (exact absurd h Bool.false_ne_true) | skip
    rename_i a' c um68 pos
    cases um68 <;> first | (exact absurd h Bool.false_ne_true) | skip
    simp only [chkE, Bool.and_eq_true, decide_eq_true_eq] at h
    obtain ⟨rfl, ha⟩ := h
    refine PE.imp (pe_fmt (soundE a G a' ha)) fun σ H Q q => ?_
    refine lift1 (r := fun x H1 Q => (∃ y : Str, x = .str y ∧ y.length ≤ sizeLine ∧ Q (.str y) H1) ∨ ∃ i : Int, x = .int i ∧ i.natAbs.log2 < 1920 ∧ Q (.str (toString i)) H1) (rd := fun x M1 E Q => fmtD x M1 Q) q fun d v M1 H1 ρ E Qd R r1 t k x => ?_
    cases d <;> try (exact t.elim)
    · cases r1; exact .inr ⟨_, rfl, t.1, k _ _ _ _ (TX.refl _) R (.str _) t.2⟩
    · cases r1; exact .inl ⟨_, rfl, t.1, k _ _ _ _ (TX.refl _) R (.str _) t.2⟩
  | .fst es, X, T, W, G, e, h => by
    cases e <;> first | (exact absurd h Bool.false_ne_true) | skip
    rename_i um69 pos
    cases um69 <;> first | (exact absurd h Bool.false_ne_true) | skip
    rename_i v1 um70
    cases um70 <;> first | (exact absurd h Bool.false_ne_true) | skip
    rename_i v2 vs
    simp only [chkE] at h
    obtain ⟨ts, hj, kj⟩ := soundJ es G _ h
    refine PE.imp (pe_joined hj) fun σ H Q q => ?_
    obtain ⟨ρ, M, E, Qd, R, t, k, x⟩ := q
    simp only [evE] at t
    exact kj _ σ H _ ⟨ρ, M, E, _, R, t, fun out M' H' e' R' q' => k _ _ _ _ e' R' (.str _) q', x⟩
  | .smt m a e1, X, T, W, G, e, h => by
    cases m with
    | join =>
      cases e <;> first | (exact absurd h Bool.false_ne_true) | skip
      rename_i um71 um72 um73 cp
      cases um71 <;> first | (exact absurd h Bool.false_ne_true) | skip
      rename_i a' nm ap
      cases um72 <;> first | (exact absurd h Bool.false_ne_true) | skip
      rename_i v um74
      cases um74 <;> first | (exact absurd h Bool.false_ne_true) | skip
      cases um73 <;> first | (exact absurd h Bool.false_ne_true) | skip
      simp only [chkE, Bool.and_eq_true, decide_eq_true_eq] at h
      obtain ⟨⟨⟨rfl, hl⟩, ha⟩, he⟩ := h
      refine PE.imp (pe_join (soundE a G a' ha) (soundE e1 G v he) (star_ok he [] X.env) (attr_ok ha _ _) hl) fun σ H Q q => ?_
      exact smt_imp q fun x y v u M2 H2 R2 r1 r2 Q' Qd t k => by
        cases x <;> try (exact t.elim)
        cases r1
        obtain ⟨ds, ys, hs, hy, hz, t⟩ := t
        obtain ⟨p, ws, rfl, sq, rs⟩ := seqD_sq hs r2 R2
        have e := strsD_eq hy rs
        subst e
        exact ⟨_, p, ys, rfl, rfl, sq, hz, k _ (.str _) t⟩
    | zfill =>
      cases e <;> first | (exact absurd h Bool.false_ne_true) | skip
      rename_i um75 um76 um77 cp
      cases um75 <;> first | (exact absurd h Bool.false_ne_true) | skip
      rename_i a' nm ap
      cases um76 <;> first | (exact absurd h Bool.false_ne_true) | skip
      rename_i v um78
      cases um78 <;> first | (exact absurd h Bool.false_ne_true) | skip
      cases um77 <;> first | (exact absurd h Bool.false_ne_true) | skip
      simp only [chkE, Bool.and_eq_true, decide_eq_true_eq] at h
      obtain ⟨⟨⟨rfl, hl⟩, ha⟩, he⟩ := h
      refine PE.imp (pe_m1 PySem.F.slot_str_zfill PySem.F.type_str_zfill mt_zfill (soundE a G a' ha) (soundE e1 G v he) (star_ok he [] X.env) (attr_ok ha _ _) hl) fun σ H Q q => ?_
      exact smt_imp q fun x y v u M2 H2 R2 r1 r2 Q' Qd t k => by
        cases x <;> try (exact t.elim)
        cases r1
        obtain ⟨i, rfl, hp, t⟩ := t
        cases r2
        exact ⟨_, i, rfl, rfl, hp, k _ (.str _) t⟩
  | .xfl a f, X, T, W, G, e, h => by
    cases e <;> first | (simp [chkE] at h; done) | skip
    simp only [chkE, Bool.and_eq_true, decide_eq_true_eq, Bool.not_eq_true'] at h
    obtain ⟨⟨hcm, rfl⟩, ha⟩ := h
    cases hx : Γ.exn with
    | none =>
      refine PE.imp (pe_fld (soundE a G _ ha) (attr_ok ha _ _)) fun σ H Q q => ?_
      obtain ⟨ρ, M, E, Qd, R, t, k, x⟩ := q
      simp only [evE, hx] at t
      exact ⟨ρ, M, E, _, R, t, fun d M1 v H1 e1 R1 r1 t1 => t1.elim, x⟩
    | some z =>
      obtain ⟨p, C, dx⟩ := z
      obtain ⟨Y, oe, pn, rfl, hz, hf⟩ := G.exn hcm p C dx hx
      cases dx with
      | none =>
        refine PE.imp (pe_fld (soundE a G _ ha) (attr_ok ha _ _)) fun σ H Q q => ?_
        obtain ⟨ρ, M, E, Qd, R, t, k, x⟩ := q
        simp only [evE, hx] at t
        exact ⟨ρ, M, E, _, R, t, fun d M1 v H1 e1 R1 r1 t1 => t1.elim, x⟩
      | some dd =>
        by_cases hfl : Γ.xfl C f
        · refine PE.imp (pe_xf (G.xfl _ _ hfl).1 (G.xfl _ _ hfl).2 hz hf (soundE a G _ ha) (attr_ok ha _ _)) fun σ H Q q => ?_
          refine lift1 (r := fun x H1 Q => x = .ref p ∧ Value.ref C = .ref C ∧ ∃ (d2 : Addr) (fs : List (Str × V)) (v : V), some dd = some d2 ∧ H1 d2 = some (.xd fs) ∧ fs.lookup f = some v ∧ Q v H1)
            (rd := fun x M1 E Q => match x with | .ref b => b = p ∧ Γ.xfl C f ∧ ∃ fs d, M1 dd = some (.exd fs) ∧ fs.lookup f = some d ∧ Q d M1 | _ => False) (by
              obtain ⟨ρ, M, E, Qd, R, t, k, x⟩ := q
              simp only [evE, hx] at t
              refine ⟨ρ, M, E, Qd, R, ?_, k, x⟩
              refine Eq.mp ?_ t
              congr 1
              funext d M1
              cases d <;> rfl) fun d v M1 H1 ρ E Qd R r1 t k x => ?_
          cases d <;> try (exact t.elim)
          cases r1
          obtain ⟨rfl, _, fs, d, h1, h2, t⟩ := t
          obtain ⟨vfs, h4, h5⟩ := R.mem _ _ h1
          obtain ⟨v, h6, r⟩ := h5 _ _ h2
          exact ⟨rfl, rfl, dd, vfs, v, rfl, h4, h6, k _ _ _ _ (TX.refl _) R r t⟩
        · refine PE.imp (pe_fld (soundE a G _ ha) (attr_ok ha _ _)) fun σ H Q q => ?_
          obtain ⟨ρ, M, E, Qd, R, t, k, x⟩ := q
          simp only [evE, hx] at t
          refine ⟨ρ, M, E, _, R, t, fun d M1 v H1 e1 R1 r1 t1 => ?_, x⟩
          cases d <;> first | (exact t1.elim) | (exact absurd t1.2.1 hfl)
  | .xis a g, X, T, W, G, e, h => by
    cases e <;> first | (exact absurd h Bool.false_ne_true) | skip
    rename_i um79 um80 um81 pos
    cases um79 <;> first | (exact absurd h Bool.false_ne_true) | skip
    rename_i x p
    cases um80 <;> first | (exact absurd h Bool.false_ne_true) | skip
    rename_i a' um82
    cases um82 <;> first | (exact absurd h Bool.false_ne_true) | skip
    rename_i um83 um84
    cases um83 <;> first | (exact absurd h Bool.false_ne_true) | skip
    rename_i y py
    cases um84 <;> first | (exact absurd h Bool.false_ne_true) | skip
    cases um81 <;> first | (exact absurd h Bool.false_ne_true) | skip
    simp only [chkE, Bool.and_eq_true, decide_eq_true_eq, Bool.not_eq_true'] at h
    obtain ⟨⟨⟨⟨⟨⟨⟨hcm, rfl⟩, hxn⟩, hgx⟩, hgn⟩, hgy⟩, hpl⟩, ha⟩ := h
    exact xis_ok G (soundE a G a' ha) (fun es => star_ok ha es X.env) hcm hxn (G.gl hgx) hgn (G.gl hgy) (plainN_ok hpl).1
theorem soundK : ∀ (m : Exs) {X : Cx} {T : Tb} {W : WX} (G : Good CX X T Γ W lv) (kws : List Keyword), chkEs T m (kws.map (·.value)) = true → PK X kws (liftA X.K W (evEs Γ m))
  | .nil, X, T, W, G, kws, h => by
    cases kws with
    | cons _ _ => simp [chkEs] at h
    | nil =>
      refine PK.imp pk_nil fun σ H Q q => ?_
      obtain ⟨ρ, M, E, Qd, R, t, k, _⟩ := q
      exact k _ _ _ _ (TX.refl H) R .nil t
  | .cons m ms, X, T, W, G, kws, h => by
    cases kws with
    | nil => simp [chkEs] at h
    | cons kw kws =>
      obtain ⟨nm, v, kp⟩ := kw
      simp only [List.map_cons, chkEs, Bool.and_eq_true] at h
      refine PK.imp (pk_cons (soundE m G v h.1) (soundK ms G kws h.2)) fun σ H Q q => ?_
      obtain ⟨ρ, M, E, Qd, R, t, k, x⟩ := q
      simp only [evEs] at t
      exact ⟨ρ, M, E, _, R, t, fun d M1 v H1 e1 R1 r1 t1 => ⟨ρ, M1, E, _, R1, t1, fun ds M2 vs H2 e2 R2 r2 t2 => k _ _ _ _ (e1.trans e2) R2 (.cons (r1.mono e2) r2) t2,
        fun x' M' c dd H' e' => x x' M' c dd H' (e1.trans e')⟩, x⟩
theorem soundJ : ∀ (m : Exs) {X : Cx} {T : Tb} {W : WX} (G : Good CX X T Γ W lv) (es : List Expr), chkEs T m es = true →
    ∃ ts, PJ X es ts ∧ ∀ acc σ H Q, liftJ X.K W (evJ Γ m acc) σ H Q → tJs ts acc σ H Q
  | .nil, X, T, W, G, es, h => by
    cases es with
    | cons _ _ => simp [chkEs] at h
    | nil => exact ⟨[], .nil, fun acc σ H Q ⟨ρ, M, E, Qd, R, t, k, x⟩ => k _ _ _ (TX.refl H) R t⟩
  | .cons m ms, X, T, W, G, es, h => by
    cases es with
    | nil => simp [chkEs] at h
    | cons e es =>
      simp only [chkEs, Bool.and_eq_true] at h
      obtain ⟨ts, hj, kj⟩ := soundJ ms G es h.2
      refine ⟨_ :: ts, .cons (soundE m G e h.1) hj, fun acc σ H Q ⟨ρ, M, E, Qd, R, t, k, x⟩ => ?_⟩
      simp only [evJ] at t
      refine ⟨ρ, M, E, _, R, t, fun d M1 v H1 e1 R1 r1 t1 => ?_, x⟩
      obtain ⟨y, rfl, hl, t1⟩ := t1
      cases r1
      exact ⟨y, rfl, hl, kj _ σ H1 Q ⟨ρ, M1, E, _, R1, t1, fun out M' H' e' R' q' => k out M' H' (e1.trans e') R' q', fun x' M' c dd H' e' => x x' M' c dd H' (e1.trans e')⟩⟩
theorem soundEs : ∀ (m : Exs) {X : Cx} {T : Tb} {W : WX} (G : Good CX X T Γ W lv) (es : List Expr), chkEs T m es = true → PA X es (liftA X.K W (evEs Γ m))
  | .nil, X, T, W, G, es, h => by
    cases es with
    | cons _ _ => simp [chkEs] at h
    | nil =>
      refine PA.imp pa_nil fun σ H Q q => ?_
      obtain ⟨ρ, M, E, Qd, R, t, k, _⟩ := q
      exact k _ _ _ _ (TX.refl H) R .nil t
  | .cons m ms, X, T, W, G, es, h => by
    cases es with
    | nil => simp [chkEs] at h
    | cons e es =>
      simp only [chkEs, Bool.and_eq_true] at h
      refine PA.imp (pa_cons (soundE m G e h.1) (soundEs ms G es h.2) (star_ok h.1 es X.env)) fun σ H Q q => ?_
      obtain ⟨ρ, M, E, Qd, R, t, k, x⟩ := q
      simp only [evEs] at t
      exact ⟨ρ, M, E, _, R, t, fun d M1 v H1 e1 R1 r1 t1 => ⟨ρ, M1, E, _, R1, t1, fun ds M2 vs H2 e2 R2 r2 t2 => k _ _ _ _ (e1.trans e2) R2 (.cons (r1.mono e2) r2) t2,
        fun y M' c d H' e' => x y M' c d H' (e1.trans e')⟩, x⟩
theorem soundO : ∀ (m : Exo) {X : Cx} {T : Tb} {W : WX} (G : Good CX X T Γ W lv) (e : Option Expr), chkO T m e = true → PO X e (liftO X.K W (evO Γ m))
  | .none, X, T, W, G, e, h => by
    cases e with
    | some _ => simp [chkO] at h
    | none =>
      refine PO.imp po_none fun σ H Q q => ?_
      obtain ⟨ρ, M, E, Qd, R, t, k, x⟩ := q
      exact k _ _ _ (TX.refl H) R t
  | .some m, X, T, W, G, e, h => by
    cases e with
    | none => simp [chkO] at h
    | some e =>
      simp only [chkO] at h
      refine PO.imp (po_some (soundE m G e h)) fun σ H Q q => ?_
      obtain ⟨ρ, M, E, Qd, R, t, k, x⟩ := q
      simp only [evO] at t
      refine ⟨ρ, M, E, _, R, t, fun d M1 v H1 e1 R1 r1 t1 => ?_, x⟩
      cases d <;> try (exact t1.elim)
      cases r1
      exact ⟨_, rfl, k _ _ _ e1 R1 t1⟩
theorem soundB (o : BoolOp) : ∀ (m : Exs) {X : Cx} {T : Tb} {W : WX} (G : Good CX X T Γ W lv) (es : List Expr) (pos : Pos), chkEs T m es = true → PE X (.BoolOp o es pos) (lift X.K W (evB Γ o m))
  | .nil, X, T, W, G, es, pos, h => PE.never fun σ H Q q => by
      obtain ⟨ρ, M, E, Qd, R, t, k, x⟩ := q
      simp only [evB] at t
  | .cons m ms, X, T, W, G, es, pos, h => by
    cases es with
    | nil => simp [chkEs] at h
    | cons e es =>
      simp only [chkEs, Bool.and_eq_true] at h
      cases ms with
      | nil =>
        cases es with
        | cons _ _ => simp [chkEs] at h
        | nil =>
          refine PE.imp (pe_one (soundE m G e h.1)) fun σ H Q q => ?_
          simp only [evB] at q
          exact q
      | cons m2 ms =>
        cases es with
        | nil => simp [chkEs] at h
        | cons e2 es =>
          have ih := soundB o (.cons m2 ms) G (e2 :: es) pos h.2
          cases o with
          | And =>
            refine PE.imp (pe_and (soundE m G e h.1) ih) fun σ H Q q => ?_
            obtain ⟨ρ, M, E, Qd, R, t, k, x⟩ := q
            simp only [evB] at t
            refine ⟨ρ, M, E, _, R, t, fun d M1 v H1 e1 R1 r1 t1 => ?_, x⟩
            cases d <;> try (exact t1.elim)
            rename_i c
            cases r1
            refine ⟨c, rfl, ?_⟩
            cases c with
            | true => exact ⟨ρ, M1, E, Qd, R1, t1, fun d M' v H' e' => k d M' v H' (e1.trans e'), fun y M' c d H' e' => x y M' c d H' (e1.trans e')⟩
            | false => exact k _ _ _ _ e1 R1 (.bl _) t1
          | Or =>
            refine PE.imp (pe_orT (soundE m G e h.1) ih) fun σ H Q q => ?_
            obtain ⟨ρ, M, E, Qd, R, t, k, x⟩ := q
            simp only [evB] at t
            refine ⟨ρ, M, E, _, R, t, fun d M1 v H1 e1 R1 r1 t1 => ?_, x⟩
            cases d <;> try (exact t1.elim)
            · rename_i c
              cases c with
              | false => exact ⟨false, truD_ok R1.mem r1 rfl, by rw [if_neg (by decide)]; exact ⟨ρ, M1, E, Qd, R1, t1, fun d M' v H' e' => k d M' v H' (e1.trans e'), fun y M' c d H' e' => x y M' c d H' (e1.trans e')⟩⟩
              | true => exact ⟨true, truD_ok R1.mem r1 rfl, by rw [if_pos rfl]; exact k _ _ _ _ e1 R1 r1 t1⟩
            · rename_i i
              have tr := truD_ok (b := (i != 0)) R1.mem r1 rfl
              rcases t1 with ⟨h0, t1⟩ | ⟨h0, t1⟩
              · rw [show (i != 0) = true by simpa using h0] at tr
                exact ⟨true, tr, by rw [if_pos rfl]; exact k _ _ _ _ e1 R1 r1 t1⟩
              · rw [show (i != 0) = false by simpa using h0] at tr
                exact ⟨false, tr, by rw [if_neg (by decide)]; exact ⟨ρ, M1, E, Qd, R1, t1, fun d M' v H' e' => k d M' v H' (e1.trans e'), fun y M' c d H' e' => x y M' c d H' (e1.trans e')⟩⟩
theorem soundT : ∀ (m : Te) {X : Cx} {T : Tb} {W : WX} (G : Good CX X T Γ W lv) (e : Expr), chkT T m e = true → PT X e (liftT X.K W (evT Γ m))
  | .val a, X, T, W, G, e, h => by
    simp only [chkT, Bool.and_eq_true] at h
    have he : ∀ whole, isTrue e X.env whole = (do let v ← whole; standAt e.pos; holding [v] (truthy v)) := by
      intro whole
      cases e with
      | UnaryOp o a p => cases o <;> first | rfl | (have := h.2; simp at this)
      | BoolOp a b c => have := h.2; simp at this
      | IfExp a b c d => have := h.2; simp at this
      | Compare a b c d => have := h.2; simp at this
      | _ => rfl
    refine PT.imp (pt_truth (soundE a G e h.1) he) fun σ H Q q => ?_
    obtain ⟨ρ, M, E, Qd, R, t, k, x⟩ := q
    simp only [evT] at t
    refine ⟨ρ, M, E, _, R, t, fun d M1 v H1 e1 R1 r1 t1 => ?_, x⟩
    obtain ⟨c, hc, t1⟩ := t1
    exact ⟨c, truD_ok R1.mem r1 hc, k _ _ _ e1 R1 t1⟩
  | .cmp o a b, X, T, W, G, e, h => by
    cases e <;> first | (exact absurd h Bool.false_ne_true) | skip
    rename_i a' um85 um86 pos
    cases um85 <;> first | (exact absurd h Bool.false_ne_true) | skip
    rename_i o' um87
    cases um87 <;> first | (exact absurd h Bool.false_ne_true) | skip
    cases um86 <;> first | (exact absurd h Bool.false_ne_true) | skip
    rename_i b' um88
    cases um88 <;> first | (exact absurd h Bool.false_ne_true) | skip
    simp only [chkT, Bool.and_eq_true, decide_eq_true_eq, Bool.not_eq_true'] at h
    obtain ⟨⟨⟨rfl, hm⟩, ha⟩, hb⟩ := h
    refine PT.imp (pt_cmpR (cmp_ok G.hu o) (soundE a G _ ha) (soundE b G _ hb) hm) fun σ H Q q => ?_
    obtain ⟨ρ, M, E, Qd, R, t, k, x⟩ := q
    simp only [evT] at t
    refine ⟨ρ, M, E, _, R, t, fun d M1 v H1 e1 R1 r1 t1 => ⟨ρ, M1, E, _, R1, t1, fun e M2 u H2 e2 R2 r2 t2 => ?_, fun y M' c d H' e' => x y M' c d H' (e1.trans e')⟩, x⟩
    obtain ⟨c1, hc1, t2⟩ := t2
    refine ⟨d, e, M2, fun z M' => z = .bl c1 ∧ M' = M2, R2.mem, r1.mono e2, r2, ⟨c1, hc1, rfl, rfl⟩, fun z M' v' H' e' m' r' w => ?_⟩
    obtain ⟨rfl, rfl⟩ := w
    cases r'
    exact ⟨c1, rfl, k _ _ _ ((e1.trans e2).trans e') (R_of R2 e' m') t2⟩
  | .chn o1 o2 a b c, X, T, W, G, e, h => by
    cases e <;> first | (exact absurd h Bool.false_ne_true) | skip
    rename_i a' um89 um90 pos
    cases um89 <;> first | (exact absurd h Bool.false_ne_true) | skip
    rename_i o1' um91
    cases um91 <;> first | (exact absurd h Bool.false_ne_true) | skip
    rename_i o2' um92
    cases um92 <;> first | (exact absurd h Bool.false_ne_true) | skip
    cases um90 <;> first | (exact absurd h Bool.false_ne_true) | skip
    rename_i b' um93
    cases um93 <;> first | (exact absurd h Bool.false_ne_true) | skip
    rename_i c' um94
    cases um94 <;> first | (exact absurd h Bool.false_ne_true) | skip
    simp only [chkT, Bool.and_eq_true, decide_eq_true_eq, Bool.not_eq_true'] at h
    obtain ⟨⟨⟨⟨⟨rfl, rfl⟩, hm⟩, ha⟩, hb⟩, hc⟩ := h
    refine PT.imp (pt_chain (cmp_ok G.hu o1) (cmp_ok G.hu o2) (soundE a G _ ha) (soundE b G _ hb) (soundE c G _ hc) hm) fun σ H Q q => ?_
    obtain ⟨ρ, M, E, Qd, R, t, k, x⟩ := q
    simp only [evT] at t
    refine ⟨ρ, M, E, _, R, t, fun d M1 v H1 e1 R1 r1 t1 => ⟨ρ, M1, E, _, R1, t1, fun e M2 u H2 e2 R2 r2 t2 => ?_, fun y M' c d H' e' => x y M' c d H' (e1.trans e')⟩, x⟩
    obtain ⟨c1, hc1, t2⟩ := t2
    refine ⟨d, e, M2, fun z M' => z = .bl c1 ∧ M' = M2, R2.mem, r1.mono e2, r2, ⟨c1, hc1, rfl, rfl⟩, fun z M' v' H' e' m' r' w => ?_⟩
    obtain ⟨rfl, rfl⟩ := w
    cases r'
    refine ⟨c1, rfl, ?_⟩
    have R3 : Rel X.K ρ M' σ H' := R_of R2 e' m'
    cases c1 with
    | false => exact ⟨false, rfl, k _ _ _ ((e1.trans e2).trans e') R3 t2⟩
    | true =>
      refine ⟨ρ, M', E, _, R3, t2, fun g M3 w3 H3 e3 R3 r3 t3 => ?_, fun y M' c d H'' e'' => x y M' c d H'' (((e1.trans e2).trans e').trans e'')⟩
      obtain ⟨c2, hc2, t3⟩ := t3
      refine ⟨e, g, M3, fun z M' => z = .bl c2 ∧ M' = M3, R3.mem, r2.mono (e'.trans e3), r3, ⟨c2, hc2, rfl, rfl⟩, fun z M4 v4 H4 e4 m4 r4 w => ?_⟩
      obtain ⟨rfl, rfl⟩ := w
      cases r4
      exact ⟨c2, rfl, k _ _ _ ((((e1.trans e2).trans e').trans e3).trans e4) (R_of R3 e4 m4) t3⟩
  | .oeq g a b, X, T, W, G, e, h => by
    cases e <;> first | (exact absurd h Bool.false_ne_true) | skip
    rename_i a' um95 um96 pos
    cases um95 <;> first | (exact absurd h Bool.false_ne_true) | skip
    rename_i um97 um98
    cases um97 <;> first | (exact absurd h Bool.false_ne_true) | skip
    cases um98 <;> first | (exact absurd h Bool.false_ne_true) | skip
    cases um96 <;> first | (exact absurd h Bool.false_ne_true) | skip
    rename_i b' um99
    cases um99 <;> first | (exact absurd h Bool.false_ne_true) | skip
    simp only [chkT, Bool.and_eq_true, Bool.not_eq_true'] at h
    obtain ⟨⟨⟨⟨hcm, hm⟩, hg⟩, ha⟩, hb⟩ := h
    cases hc : (Γ.gv g).insOf with
    | none => exact ⟨fun pins s σ H Q I ⟨ρ, M, E, Qd, R, t, _⟩ => by simp only [evT, hc] at t⟩
    | some C =>
      refine PT.imp (oeqT_ok G hcm hc (soundE a G a' ha) (soundE b G b' hb) hm) fun σ H Q ⟨ρ, M, E, Qd, R, t, k, x⟩ => ⟨ρ, M, E, Qd, R, by simp only [evT, hc] at t; exact t, k, x⟩
  | .bop o ts, X, T, W, G, e, h => by
    cases e <;> first | (simp [chkT] at h; done) | skip
    simp only [chkT, Bool.and_eq_true, decide_eq_true_eq] at h
    obtain ⟨⟨rfl, hn⟩, hs⟩ := h
    refine PT.imp (soundBT o ts G _ _ hs).pt fun σ H Q q => ?_
    obtain ⟨ρ, M, E, Qd, R, t, k, x⟩ := q
    simp only [evT] at t
    exact ⟨ρ, M, E, Qd, R, t, k, x⟩
  | .not t, X, T, W, G, e, h => by
    cases e <;> first | (simp [chkT] at h; done) | skip
    rename_i o a' pos
    cases o <;> first | (simp [chkT] at h; done) | skip
    simp only [chkT] at h
    refine PT.imp (pt_not (soundT t G _ h)) fun σ H Q q => ?_
    obtain ⟨ρ, M, E, Qd, R, t, k, x⟩ := q
    simp only [evT] at t
    exact ⟨ρ, M, E, _, R, t, fun b M1 H1 e1 R1 t1 => k _ _ _ e1 R1 t1, x⟩
theorem soundBT (o : BoolOp) : ∀ (m : Tes) {X : Cx} {T : Tb} {W : WX} (G : Good CX X T Γ W lv) (es : List Expr) (pos : Pos), chkTs T m es = true → PW X (.BoolOp o es pos) (liftT X.K W (evBT Γ o m))
  | .nil, X, T, W, G, es, pos, h => ⟨fun wh pins s σ H Q I q => by
      obtain ⟨ρ, M, E, Qd, R, t, k, x⟩ := q
      simp only [evBT] at t⟩
  | .cons m ms, X, T, W, G, es, pos, h => by
    cases es with
    | nil => simp [chkTs] at h
    | cons e es =>
      simp only [chkTs, Bool.and_eq_true] at h
      cases ms with
      | nil =>
        cases es with
        | cons _ _ => simp [chkTs] at h
        | nil =>
          have a := soundT m G e h.1
          have go : ∀ σ H Q, liftT X.K W (evBT Γ o (.cons m .nil)) σ H Q → liftT X.K W (evT Γ m) σ H Q := fun σ H Q q => by
            simp only [evBT] at q
            exact q
          cases o with
          | And => exact ⟨fun wh pins s σ H Q I q => (pw_and1 a).run wh pins s σ H Q I (go σ H Q q)⟩
          | Or => exact ⟨fun wh pins s σ H Q I q => (pw_or1 a).run wh pins s σ H Q I (go σ H Q q)⟩
      | cons m2 ms =>
        cases es with
        | nil => simp [chkTs] at h
        | cons e2 es =>
          have ih := soundBT o (.cons m2 ms) G (e2 :: es) pos h.2
          have a := soundT m G e h.1
          cases o with
          | And =>
            refine ⟨fun wh pins s σ H Q I q => (pw_and a ih).run wh pins s σ H Q I ?_⟩
            obtain ⟨ρ, M, E, Qd, R, t, k, x⟩ := q
            simp only [evBT] at t
            refine ⟨ρ, M, E, _, R, t, fun b M1 H1 e1 R1 t1 => ?_, x⟩
            cases b with
            | true => exact ⟨ρ, M1, E, Qd, R1, t1, fun d M' H' e' => k d M' H' (e1.trans e'), fun y M' c d H' e' => x y M' c d H' (e1.trans e')⟩
            | false => exact k _ _ _ e1 R1 t1
          | Or =>
            refine ⟨fun wh pins s σ H Q I q => (pw_or a ih).run wh pins s σ H Q I ?_⟩
            obtain ⟨ρ, M, E, Qd, R, t, k, x⟩ := q
            simp only [evBT] at t
            refine ⟨ρ, M, E, _, R, t, fun b M1 H1 e1 R1 t1 => ?_, x⟩
            cases b with
            | false => exact ⟨ρ, M1, E, Qd, R1, t1, fun d M' H' e' => k d M' H' (e1.trans e'), fun y M' c d H' e' => x y M' c d H' (e1.trans e')⟩
            | true => exact k _ _ _ e1 R1 t1
theorem soundC : ∀ (m : Teo) {X : Cx} {T : Tb} {W : WX} (G : Good CX X T Γ W lv) (es : List Expr), chkC T m es = true → PTs X es (liftT X.K W (evC Γ m))
  | .none, X, T, W, G, e, h => by
    cases e with
    | cons _ _ => simp [chkC] at h
    | nil =>
      refine PTs.imp pts_nil fun σ H Q q => ?_
      obtain ⟨ρ, M, E, Qd, R, t, k, x⟩ := q
      simp only [evC] at t
      exact k _ _ _ (TX.refl H) R t
  | .some m, X, T, W, G, e, h => by
    cases e <;> first | (exact absurd h Bool.false_ne_true) | skip
    rename_i e um100
    cases um100 <;> first | (exact absurd h Bool.false_ne_true) | skip
    simp only [chkC] at h
    refine PTs.imp (pts_one (soundT m G e h)) fun σ H Q q => ?_
    simp only [evC] at q
    exact q
theorem soundI : ∀ (m : Si) {X : Cx} {T : Tb} {W : WX} (G : Good CX X T Γ W lv) (tg e : Expr), chkI T (isTup tg) m e = true → PI X tg e (liftI X.K W (evI Γ m))
  | .seq a, X, T, W, G, tg, e, h => by
    simp only [chkI] at h
    refine PI.imp (pi_seq (soundE a G e h)) fun σ H R q => ?_
    obtain ⟨ρ, M, E, Qd, R, t, k, x⟩ := q
    simp only [evI] at t
    refine ⟨ρ, M, E, _, R, t, fun d M1 v H1 e1 R1 r1 t1 => ?_, x⟩
    cases d <;> try (exact t1.elim)
    · obtain ⟨p, vs, rfl, sq, rs⟩ := r1.tup_inv
      exact ⟨p, rfl, .inr ⟨⟨vs, sq⟩, k _ _ _ _ _ e1 R1 (walkR_tup rs sq) t1⟩⟩
    · cases r1
      obtain ⟨ds, hm, t1⟩ := t1
      obtain ⟨vs, sq, rs⟩ := R1.mem.sq hm
      exact ⟨_, rfl, .inl ⟨⟨vs, sq⟩, k _ _ _ _ _ e1 R1 walkR_list t1⟩⟩
  | .rng1 a, X, T, W, G, tg, e, h => by
    cases e <;> first | (exact absurd h Bool.false_ne_true) | skip
    rename_i um101 um102 um103 pos
    cases um101 <;> first | (exact absurd h Bool.false_ne_true) | skip
    rename_i f p
    cases um102 <;> first | (exact absurd h Bool.false_ne_true) | skip
    rename_i a' um104
    cases um104 <;> first | (exact absurd h Bool.false_ne_true) | skip
    cases um103 <;> first | (exact absurd h Bool.false_ne_true) | skip
    simp only [chkI, Bool.and_eq_true, decide_eq_true_eq] at h
    obtain ⟨⟨⟨rfl, h1⟩, h2⟩, ha⟩ := h
    refine PI.imp (pi_range1 (G.gl h2) (G.xn _ (by simpa using h1)) (pa_cons (soundE a G a' ha) pa_nil (star_ok ha [] X.env)) (star_ok ha [] X.env)) fun σ H R q => ?_
    obtain ⟨ρ, M, E, Qd, R, t, k, x⟩ := q
    simp only [evI] at t
    refine ⟨ρ, M, E, _, R, t, fun d M1 v H1 e1 R1 r1 t1 => ?_, x⟩
    cases d <;> try (exact t1.elim)
    cases r1
    exact ⟨_, rfl, t1.1.1, t1.1.2, k _ _ _ _ _ e1 R1 walkR_rng t1.2⟩
  | .rng2 a b, X, T, W, G, tg, e, h => by
    cases e <;> first | (exact absurd h Bool.false_ne_true) | skip
    rename_i um105 um106 um107 pos
    cases um105 <;> first | (exact absurd h Bool.false_ne_true) | skip
    rename_i f p
    cases um106 <;> first | (exact absurd h Bool.false_ne_true) | skip
    rename_i a' um108
    cases um108 <;> first | (exact absurd h Bool.false_ne_true) | skip
    rename_i b' um109
    cases um109 <;> first | (exact absurd h Bool.false_ne_true) | skip
    cases um107 <;> first | (exact absurd h Bool.false_ne_true) | skip
    simp only [chkI, Bool.and_eq_true, decide_eq_true_eq] at h
    obtain ⟨⟨⟨⟨rfl, h1⟩, h2⟩, ha⟩, hb⟩ := h
    refine PI.imp (pi_range2 (G.gl h2) (G.xn _ (by simpa using h1)) (pa_cons (soundE a G a' ha) (pa_cons (soundE b G b' hb) pa_nil (star_ok hb [] X.env)) (star_ok ha [b'] X.env)) (by rw [star_ok ha [b'] X.env, star_ok hb [] X.env]; rfl) (star_ok hb [] X.env)) fun σ H R q => ?_
    obtain ⟨ρ, M, E, Qd, R, t, k, x⟩ := q
    simp only [evI] at t
    refine ⟨ρ, M, E, _, R, t, fun d M1 v H1 e1 R1 r1 t1 => ⟨ρ, M1, E, _, R1, t1, fun d2 M2 v2 H2 e2 R2 r2 t2 => ?_, fun y M' c d H' e' => x y M' c d H' (e1.trans e')⟩, x⟩
    cases d <;> cases d2 <;> try (exact t2.elim)
    cases r1; cases r2
    exact ⟨_, _, rfl, ⟨t2.1.1, t2.1.2, t2.2.1.1, t2.2.1.2⟩, k _ _ _ _ _ (e1.trans e2) R2 walkR_rng t2.2.2⟩
  | .rng3 a b c, X, T, W, G, tg, e, h => by
    cases e <;> first | (exact absurd h Bool.false_ne_true) | skip
    rename_i um110 um111 um112 pos
    cases um110 <;> first | (exact absurd h Bool.false_ne_true) | skip
    rename_i f p
    cases um111 <;> first | (exact absurd h Bool.false_ne_true) | skip
    rename_i a' um113
    cases um113 <;> first | (exact absurd h Bool.false_ne_true) | skip
    rename_i b' um114
    cases um114 <;> first | (exact absurd h Bool.false_ne_true) | skip
    rename_i c' um115
    cases um115 <;> first | (exact absurd h Bool.false_ne_true) | skip
    cases um112 <;> first | (exact absurd h Bool.false_ne_true) | skip
    simp only [chkI, Bool.and_eq_true, decide_eq_true_eq] at h
    obtain ⟨⟨⟨⟨⟨rfl, h1⟩, h2⟩, ha⟩, hb⟩, hc⟩ := h
    refine PI.imp (pi_range3 (G.gl h2) (G.xn _ (by simpa using h1)) (pa_cons (soundE a G a' ha) (pa_cons (soundE b G b' hb) (pa_cons (soundE c G c' hc) pa_nil (star_ok hc [] X.env)) (star_ok hb [c'] X.env)) (star_ok ha [b', c'] X.env)) (star_ok ha [b', c'] X.env)
      (by rw [star_ok hb [c'] X.env, star_ok hc [] X.env]; rfl)) fun σ H R q => ?_
    obtain ⟨ρ, M, E, Qd, R, t, k, x⟩ := q
    simp only [evI] at t
    refine ⟨ρ, M, E, _, R, t, fun d M1 v H1 e1 R1 r1 t1 => ⟨ρ, M1, E, _, R1, t1, fun d2 M2 v2 H2 e2 R2 r2 t2 => ⟨ρ, M2, E, _, R2, t2, fun d3 M3 v3 H3 e3 R3 r3 t3 => ?_, fun y M' c d H' e' => x y M' c d H' ((e1.trans e2).trans e')⟩, fun y M' c d H' e' => x y M' c d H' (e1.trans e')⟩, x⟩
    cases d <;> cases d2 <;> cases d3 <;> try (exact t3.elim)
    cases r1; cases r2; cases r3
    obtain ⟨n, hn, t3⟩ := t3
    exact ⟨_, _, _, n, rfl, hn, k _ _ _ _ _ ((e1.trans e2).trans e3) R3 walkR_rngC t3⟩
  | .enm a, X, T, W, G, tg, e, h => by
    cases e <;> first | (exact absurd h Bool.false_ne_true) | skip
    rename_i um116 um117 um118 pos
    cases um116 <;> first | (exact absurd h Bool.false_ne_true) | skip
    rename_i f p
    cases um117 <;> first | (exact absurd h Bool.false_ne_true) | skip
    rename_i a' um119
    cases um119 <;> first | (exact absurd h Bool.false_ne_true) | skip
    cases um118 <;> first | (exact absurd h Bool.false_ne_true) | skip
    simp only [chkI, Bool.and_eq_true, decide_eq_true_eq] at h
    obtain ⟨⟨⟨⟨hp, rfl⟩, h1⟩, h2⟩, ha⟩ := h
    cases tg <;> first | (simp [isTup] at hp; done) | skip
    refine PI.imp (pi_enumK (G.gl h2) (G.xn _ (by simpa using h1)) (pa_cons (soundE a G a' ha) pa_nil (star_ok ha [] X.env)) (star_ok ha [] X.env)) fun σ H R q => ?_
    obtain ⟨ρ, M, E, Qd, R, t, k, x⟩ := q
    simp only [evI] at t
    refine ⟨ρ, M, E, _, R, t, fun d M1 v H1 e1 R1 r1 t1 => ?_, x⟩
    obtain ⟨kk, p1, vs, ds, rfl, sq, rs, t2, g⟩ := seqI_K R1.mem r1 t1
    exact ⟨kk, p1, vs, rfl, sq, k _ _ _ _ _ e1 R1 (walkR_enmK g) t2⟩
  | .rev a, X, T, W, G, tg, e, h => by
    cases e <;> first | (exact absurd h Bool.false_ne_true) | skip
    rename_i um120 um121 um122 pos
    cases um120 <;> first | (exact absurd h Bool.false_ne_true) | skip
    rename_i f p
    cases um121 <;> first | (exact absurd h Bool.false_ne_true) | skip
    rename_i a' um123
    cases um123 <;> first | (exact absurd h Bool.false_ne_true) | skip
    cases um122 <;> first | (exact absurd h Bool.false_ne_true) | skip
    simp only [chkI, Bool.and_eq_true, decide_eq_true_eq] at h
    obtain ⟨⟨⟨rfl, h1⟩, h2⟩, ha⟩ := h
    refine PI.imp (RT.pi_revA (G.gl h2) (G.xn _ (by simpa using h1)) (soundE a G a' ha) (star_ok ha [] X.env)) fun σ H R q => ?_
    obtain ⟨ρ, M, E, Qd, R, t, k, x⟩ := q
    simp only [evI] at t
    refine ⟨ρ, M, E, _, R, t, fun d M1 v H1 e1 R1 r1 t1 => ?_, x⟩
    cases d <;> try (exact t1.elim)
    · obtain ⟨p, vs, rfl, sq, rs⟩ := r1.tup_inv
      exact ⟨p, vs, rfl, .inr ⟨sq, by rw [← rs.length]; exact k _ _ _ _ _ e1 R1 (walkR_revT rs sq) t1⟩⟩
    · cases r1
      obtain ⟨ds, hm, t1⟩ := t1
      obtain ⟨vs, sq, rs⟩ := R1.mem.sq hm
      exact ⟨_, vs, rfl, .inl ⟨sq, by rw [← rs.length]; exact k _ _ _ _ _ e1 R1 walkR_rev t1⟩⟩
  | .zip a b, X, T, W, G, tg, e, h => by
    cases e <;> first | (exact absurd h Bool.false_ne_true) | skip
    rename_i um124 um125 um126 pos
    cases um124 <;> first | (exact absurd h Bool.false_ne_true) | skip
    rename_i f p
    cases um125 <;> first | (exact absurd h Bool.false_ne_true) | skip
    rename_i a' um127
    cases um127 <;> first | (exact absurd h Bool.false_ne_true) | skip
    rename_i b' um128
    cases um128 <;> first | (exact absurd h Bool.false_ne_true) | skip
    cases um126 <;> first | (exact absurd h Bool.false_ne_true) | skip
    simp only [chkI, Bool.and_eq_true, decide_eq_true_eq] at h
    obtain ⟨⟨⟨⟨⟨hp, rfl⟩, h1⟩, h2⟩, ha⟩, hb⟩ := h
    cases tg <;> first | (simp [isTup] at hp; done) | skip
    refine PI.imp (pi_zipK (G.gl h2) (G.xn _ (by simpa using h1)) (pa_cons (soundE a G a' ha) (pa_cons (soundE b G b' hb) pa_nil (star_ok hb [] X.env)) (star_ok ha [b'] X.env)) (star_ok ha [b'] X.env) (by rw [star_ok hb [] X.env]; rfl)) fun σ H R q => ?_
    obtain ⟨ρ, M, E, Qd, R, t, k, x⟩ := q
    simp only [evI] at t
    refine ⟨ρ, M, E, _, R, t, fun d M1 v H1 e1 R1 r1 t1 => ⟨ρ, M1, E, _, R1, t1, fun d2 M2 v2 H2 e2 R2 r2 t2 => ?_, fun y M' c d H' e' => x y M' c d H' (e1.trans e')⟩, x⟩
    obtain ⟨k1, p1, vs, ds, rfl, sq, rs, t3, g⟩ := seqI_K R2.mem (r1.mono e2) t2
    obtain ⟨k2, p2, ws, es, rfl, sq2, rs2, t4, g2⟩ := seqI_K R2.mem r2 t3
    exact ⟨k1, k2, p1, p2, vs, ws, rfl, sq, sq2, k _ _ _ _ _ (e1.trans e2) R2 (walkR_zipK g g2) t4⟩
end
end
end DL
namespace DL
open PySem PySem.Spec L2
mutual
inductive Sm where
  | set (i : Nat) (e : Ex) | setLc (i : Nat) (own : List Nat) (tg : Tg) (it : Si) (c : Teo) (e : Ex)
  | setT (tg : Tg) (e : Ex) | par (i j : Nat) (a b : Ex) | setS (a b e : Ex) | setF (a : Ex) (f : Str) (e : Ex)
  | set2 (tg : Tg) (i : Nat) (e : Ex) | setTl (ts : Tgs) (e : Ex)
  | ret (e : Ex) | retN | expr (e : Ex)
  | ifs (c : Te) (a b : Sms) | whl (c : Te) (b : Sms) | fo (tg : Tg) (it : Si) (b : Sms)
  | pass | brk | cont | never
  | raise (g : Nat) (es : Exs) | raise0 (g : Nat) | trA (b : Sms) (i g : Nat) (s : Sms) | trO (b : Sms) (g : Nat) (s : Sms)
inductive Sms where
  | nil
  | cons (s : Sm) (ss : Sms)
end
structure KE where
  nx : DEnv → Mm → Prop
  rt : D → Mm → Prop
  bk : DEnv → Mm → Prop := fun _ _ => False
  ct : DEnv → Mm → Prop := fun _ _ => False
  ex : Xd → DEnv → Mm → Prop := fun _ _ _ => False
abbrev TSd := DEnv → Mm → KE → Prop
def setSD (x y v : D) (M : Mm) (Q : Mm → Prop) : Prop := match x, y with
  | .ref a, .int i => ∃ xs j, M a = some (.lst xs) ∧ ixN xs.length i = some j ∧ Q (M.put a (.lst (xs.set j v)))
  | _, _ => False
def putD (f : Str) (d : D) : List (Str × D) → List (Str × D)
  | [] => [(f, d)]
  | (g, e) :: r => if g = f then (g, d) :: r else (g, e) :: putD f d r
def setFD (Γ : Gm) (x : D) (f : Str) (v : D) (M : Mm) (Q : Mm → Prop) : Prop := match x with
  | .ref a => ∃ C fs, M a = some (.ins C fs) ∧ Γ.fld C f ∧ fs.length < 50 ∧ Q (M.put a (.ins C (putD f v fs)))
  | _ => False
def raiseD (Γ : Gm) (g : Nat) (ds : List D) (M : Mm) (Q : Xd → Mm → Prop) : Prop := match Γ.gv g with
  | .err C fs tx => fs ≠ [] ∧ ds.length = fs.length ∧ (∀ i ∈ tx, ∃ d, ds[i]? = some d ∧ TxtD d) ∧ ∀ dd, M dd = none → Q ⟨C, some dd⟩ (M.put dd (.exd (fs.zip ds)))
  | _ => False
def isErr : GV → Prop
  | .err _ _ _ => True
  | _ => False
def raise0D (Γ : Gm) (g : Nat) (M : Mm) (Q : Xd → Mm → Prop) : Prop := match Γ.gv g with
  | .err C [] [] => Q ⟨C, none⟩ M
  | _ => False
def whlD (c : TDt) (b : TSd) (K : KE) : Nat → DEnv → Mm → Prop
  | 0, _, _ => False
  | n + 1, ρ, M => c ρ M (fun x => K.ex x ρ) fun k M1 => if k = true then b ρ M1 { K with nx := whlD c b K n, ct := whlD c b K n, bk := K.nx } else K.nx ρ M1
def forD (G : Mm → Prop) (tg : Tg) (b : TSd) (K : KE) : List D → DEnv → Mm → Prop
  | [], ρ, M => G M ∧ K.nx ρ M
  | d :: ds, ρ, M => G M ∧ tgD tg d ρ fun ρ2 => b ρ2 M { K with nx := forD G tg b K ds, ct := forD G tg b K ds, bk := K.nx }
mutual
def evS (Γ : Gm) : Sm → TSd
  | .set i e => fun ρ M K => evE Γ e ρ M (fun x => K.ex x ρ) fun d M1 => K.nx (ρ.set i (some d)) M1
  | .setLc i own tg it c e => fun ρ M K => evE Γ (.lc own tg it c e) ρ M (fun x => K.ex x ρ) fun d M1 => K.nx (ρ.set i (some d)) M1
  | .setT tg e => fun ρ M K => evE Γ e ρ M (fun x => K.ex x ρ) fun d M1 => tgD tg d ρ fun ρ2 => K.nx ρ2 M1
  | .par i j a b => fun ρ M K => evE Γ a ρ M (fun x => K.ex x ρ) fun d M1 => evE Γ b ρ M1 (fun x => K.ex x ρ) fun e M2 => K.nx ((ρ.set i (some d)).set j (some e)) M2
  | .setS a b e => fun ρ M K => evE Γ e ρ M (fun x => K.ex x ρ) fun v M1 => evE Γ a ρ M1 (fun x => K.ex x ρ) fun x M2 => evE Γ b ρ M2 (fun x => K.ex x ρ) fun y M3 => setSD x y v M3 fun M4 => K.nx ρ M4
  | .setF a f e => fun ρ M K => evE Γ e ρ M (fun x => K.ex x ρ) fun v M1 => evE Γ a ρ M1 (fun x => K.ex x ρ) fun x M2 => setFD Γ x f v M2 fun M3 => K.nx ρ M3
  | .setTl ts e => fun ρ M K => evE Γ e ρ M (fun x => K.ex x ρ) fun d M1 => match d with
    | .ref a => ∃ ds, M1 a = some (.lst ds) ∧ tgsD ts ds ρ fun ρ2 => K.nx ρ2 M1
    | .tup ds => tgsD ts ds ρ fun ρ2 => K.nx ρ2 M1
    | _ => False
  | .set2 tg i e => fun ρ M K => evE Γ e ρ M (fun x => K.ex x ρ) fun d M1 => tgD tg d ρ fun ρ2 => K.nx (ρ2.set i (some d)) M1
  | .ret e => fun ρ M K => evE Γ e ρ M (fun x => K.ex x ρ) K.rt
  | .retN => fun _ M K => K.rt .non M
  | .expr e => fun ρ M K => evE Γ e ρ M (fun x => K.ex x ρ) fun _ M1 => K.nx ρ M1
  | .ifs c a b => fun ρ M K => evT Γ c ρ M (fun x => K.ex x ρ) fun k M1 => if k = true then evSs Γ a ρ M1 K else evSs Γ b ρ M1 K
  | .whl c b => fun ρ M K => ∃ n, whlD (evT Γ c) (evSs Γ b) K n ρ M
  | .fo tg it b => fun ρ M K => evI Γ it ρ M (fun x => K.ex x ρ) fun items G M1 => forD G tg (evSs Γ b) K items ρ M1
  | .pass => fun ρ M K => K.nx ρ M
  | .brk => fun ρ M K => K.bk ρ M
  | .cont => fun ρ M K => K.ct ρ M
  | .never => fun _ _ _ => False
  | .raise g es => fun ρ M K => isErr (Γ.gv g) ∧ evEs Γ es ρ M (fun x => K.ex x ρ) fun ds M1 => raiseD Γ g ds M1 fun x M2 => K.ex x ρ M2
  | .raise0 g => fun ρ M K => raise0D Γ g M fun x M2 => K.ex x ρ M2
  | .trA b i g s => fun ρ M K => evSs Γ b ρ M { K with ex := fun x ρ1 M1 => ∃ C' k, (Γ.gv g).clsOf = some C' ∧ Γ.sub x.C C' = some k ∧
      (k = true → ∀ a, M1 a = none → evSs { Γ with exn := some (a, x.C, x.d) } s (ρ1.set i (some (.ref a))) M1
        { nx := fun ρ2 M2 => K.nx (ρ2.set i none) M2, rt := K.rt, bk := fun ρ2 M2 => K.bk (ρ2.set i none) M2, ct := fun ρ2 M2 => K.ct (ρ2.set i none) M2 }) ∧
      (k = false → K.ex x ρ1 M1) }
  | .trO b g s => fun ρ M K => evSs Γ b ρ M { K with ex := fun x ρ1 M1 => ∃ C' k, (Γ.gv g).clsOf = some C' ∧ Γ.sub x.C C' = some k ∧
      (k = true → ∀ a, M1 a = none → evSs { Γ with exn := some (a, x.C, x.d) } s ρ1 M1 { nx := K.nx, rt := K.rt, bk := K.bk, ct := K.ct }) ∧
      (k = false → K.ex x ρ1 M1) }
def evSs (Γ : Gm) : Sms → TSd
  | .nil => fun ρ M K => K.nx ρ M
  | .cons s ss => fun ρ M K => evS Γ s ρ M { K with nx := fun ρ1 M1 => evSs Γ ss ρ1 M1 K }
end
def isLc : Expr → Bool
  | .ListComp _ _ _ _ => true
  | .SetComp _ _ _ _ => true
  | .DictComp _ _ _ _ _ => true
  | _ => false
def noSwap (t e : Expr) : Bool := match t, e with
  | .Tuple ts _ _, .Tuple es _ _ => !(ts.length == 2 || ts.length == 3) || es.all (foldedForSure 8)
  | .List _ _, _ => false
  | _, _ => true
def Tb.sui (T : Tb) : Tb := { T with calm := false }
mutual
def chkS (T : Tb) : Sm → Stmt → Bool
  | .set i e, .Assign [.Name x _] v _ => decide (T.N[i]? = some x) && T.loc x && !isLc v && chkE T e v
  | .setLc i own tg it c e, .Assign [.Name x p] (.ListComp e' gs scope pos) _ => decide (T.N[i]? = some x) && ((decide (T.sc.names.lookup x = some .local) && (p.line == pos.line) && !(scope.names.any fun (n, k) => n == x && (k == .local || k == .cell))) || decide (T.sc.names.lookup x = some .cell) && T.loc x) && chkE T (.lc own tg it c e) (.ListComp e' gs scope pos)
  | .setT tg e, .Assign [t] v _ => isTup t && noSwap t v && !isLc v && chkTg T tg t && chkE T e v
  | .par i j a b, .Assign [.Tuple [.Name x px, .Name y py] _ _] (.Tuple [a', b'] _ _) _ => decide (T.N[i]? = some x) && decide (T.N[j]? = some y) && decide (i ≠ j) && decide (T.sc.names.lookup x = some .local) && decide (T.sc.names.lookup y = some .local) &&
      (px.line == py.line) && decide (x ≠ y) && !([a', b'].all (foldedForSure 8)) && !([a', b'].all (constantsAlone 8)) && T.calm && chkE T a a' && chkE T b b'
  | .setS a b e, .Assign [.Subscript a' b' _] v _ => !isLc v && chkE T a a' && chkE T b b' && chkE T e v
  | .setF a f e, .Assign [.Attribute a' f' _] v _ => decide (f = f') && !isLc v && chkE T a a' && chkE T e v
  | .setTl ts e, .Assign [.Tuple es _ _] v _ => T.calm && !isTup v && chkTgs T ts es && chkE T e v
  | .set2 tg i e, .Assign [t, .Name x _] v _ => isTup t && chkTg T tg t && decide (T.N[i]? = some x) && T.loc x && chkE T e v
  | .ret e, .Return (some v) _ => chkE T e v
  | .retN, .Return none _ => true
  | .expr e, .Expr v _ => !isLc v && chkE T e v
  | .ifs c a b, .If c' a' b' _ => chkT T c c' && chkSs T a a' && chkSs T b b'
  | .whl c b, .While c' b' [] _ => chkT T c c' && chkSs T b b'
  | .fo tg it b, .For t it' b' [] _ => T.calm && chkTg T tg t && chkI T (isTup t) it it' && chkSs T b b'
  | .pass, .Pass _ => true
  | .pass, .Expr (.Constant (.str _) _ _) _ => true
  | .brk, .Break _ => true
  | .cont, .Continue _ => true
  | .never, _ => true
  | .raise g es, .Raise (some (.Call (.Name x _) vs [] _)) none _ => T.calm && decide (T.gn[g]? = some (x, none)) && T.glo x && plainN x && !vs.isEmpty && chkEs T es vs
  | .raise0 g, .Raise (some (.Call (.Name x _) [] [] _)) none _ => T.calm && decide (T.gn[g]? = some (x, none)) && T.glo x && plainN x
  | .trA b i g s, .Try b' [.ExceptHandler (some (.Name x _)) (some n) s' _] [] [] _ => T.calm && decide (T.gn[g]? = some (x, none)) && T.glo x && plainN x && decide (T.N[i]? = some n) && decide (T.sc.names.lookup n = some .local) && !s'.isEmpty && chkSs T b b' && chkSs T.sui s s'
  | .trO b g s, .Try b' [.ExceptHandler (some (.Name x _)) none s' _] [] [] _ => T.calm && decide (T.gn[g]? = some (x, none)) && T.glo x && plainN x && !s'.isEmpty && chkSs T b b' && chkSs T.sui s s'
  | _, _ => false
def chkSs (T : Tb) : Sms → List Stmt → Bool
  | .nil, [] => true
  | .cons s ss, v :: vs => chkS T s v && chkSs T ss vs
  | _, _ => false
end
def liftSt (K : PySem.W.Frag) (W : WX) (td : TSd) : TS := fun D σ H => ∃ ρ M Kd, Rel K ρ M σ H ∧ td ρ M Kd ∧
  (∀ ρ' M' σ' H', TX H H' → Rel K ρ' M' σ' H' → Kd.nx ρ' M' → D.nx σ' H') ∧
  (∀ d M' v H', TX H H' → RelM K M' H' → Rep K H' d v → Kd.rt d M' → D.rt v H') ∧
  (∀ ρ' M' σ' H', TX H H' → Rel K ρ' M' σ' H' → Kd.bk ρ' M' → D.bk σ' H') ∧
  (∀ ρ' M' σ' H', TX H H' → Rel K ρ' M' σ' H' → Kd.ct ρ' M' → D.ct σ' H') ∧
  (∀ x ρ' M' σ' cls dd H', TX H H' → Rel K ρ' M' σ' H' → RelX K H' x cls dd → Kd.ex x ρ' M' → W cls dd σ' H')
theorem PS.imp {X : Cx} {e : Stmt} {t t' : TS} (h : PS X e t) (i : ∀ D σ H, t' D σ H → t D σ H) : PS X e t' := ⟨fun pins s σ H D I q => h.run pins s σ H D I (i D σ H q)⟩
theorem PSs.imp {X : Cx} {e : List Stmt} {t t' : TS} (h : PSs X e t) (i : ∀ D σ H, t' D σ H → t D σ H) : PSs X e t' := ⟨fun pins s σ H D I q => h.run pins s σ H D I (i D σ H q)⟩
theorem lookup_putD (f g : Str) (d : D) : ∀ fs : List (Str × D), (putD f d fs).lookup g = if g = f then some d else fs.lookup g
  | [] => by
    unfold putD
    by_cases h : g = f
    · subst h; simp [List.lookup]
    · simp [List.lookup, h, beq_eq_false_iff_ne.mpr h]
  | (h, e) :: r => by
    unfold putD
    by_cases q : h = f
    · subst q
      rw [if_pos rfl]
      by_cases z : g = h
      · subst z; simp [List.lookup]
      · simp [List.lookup, beq_eq_false_iff_ne.mpr z, z]
    · rw [if_neg q]
      by_cases z : g = h
      · subst z; simp [List.lookup, q]
      · simp only [List.lookup, beq_eq_false_iff_ne.mpr z]
        exact lookup_putD f g d r
theorem swaps_no {e : Expr} (h : isLc e = false) (t : Option Expr) (l : Nat) (env : PySem.Env) : swapsWith e t l env = pure false := by
  cases e <;> first | rfl | (simp [isLc] at h)
theorem swapped_no {t e : Expr} (h : noSwap t e = true) (env : PySem.Env) : swappedStores [t] e env = pure none := by
  cases t with
  | Tuple ts k p =>
    cases e with
    | Tuple vs k2 p2 =>
      simp only [noSwap, Bool.or_eq_true, Bool.not_eq_true', Bool.or_eq_false_iff] at h
      rcases h with h | h
      · unfold swappedStores
        simp only [h.1, h.2, Bool.or_self, Bool.not_false, Bool.true_or, if_true]
      · unfold swappedStores
        simp only [h, if_true]
        split
        · rfl
        · split
          · rfl
          · split <;> rfl
    | _ => rfl
  | List ts p => simp [noSwap] at h
  | _ => cases e <;> rfl
structure GoodS (CX : CXT) (X : Cx) (T : Tb) (Γ : Gm) (W : WX) (lv : Nat) : Prop extends Good CX X T Γ W lv where
  own : PassesOwn (model X.prog X.w) X.A X.env X.xe
  tk : Takes X W
  hcx : CX = L2.CX X.prog X.w
  stk : X.stack = X.env :: X.outer
  frm : X.env.frame = some X.env.locals
end DL
namespace DL
open PySem PySem.Spec L2
theorem lookup_zip {α : Type} {x : Str} {d : α} : ∀ {fs : List Str} {ds : List α}, (fs.zip ds).lookup x = some d → ∃ i : Nat, fs[i]? = some x ∧ ds[i]? = some d
  | [], _, h => by simp [List.lookup] at h
  | _ :: _, [], h => by simp [List.lookup] at h
  | f :: fs, e :: ds, h => by
    by_cases q : x = f
    · subst q
      simp [List.lookup] at h
      subst h
      exact ⟨0, rfl, rfl⟩
    · simp only [List.zip_cons_cons, List.lookup, beq_eq_false_iff_ne.mpr q] at h
      obtain ⟨i, a, b⟩ := lookup_zip h
      exact ⟨i + 1, by simpa using a, by simpa using b⟩
theorem look_app {α : Type} (x : Str) : ∀ (l r : List (Str × α)), (l ++ r).lookup x = match l.lookup x with | some v => some v | none => r.lookup x
  | [], r => rfl
  | (y, a) :: l, r => by
    by_cases h : x = y
    · subst h; simp [List.lookup]
    · simp only [List.cons_append, List.lookup, beq_eq_false_iff_ne.mpr h]
      exact look_app x l r
theorem look_none {α : Type} (x : Str) : ∀ (l : List (Str × α)), (∀ p ∈ l, p.1 ≠ x) → l.lookup x = none
  | [], _ => rfl
  | (y, a) :: l, h => by
    have e := h (y, a) List.mem_cons_self
    simp only [List.lookup, beq_eq_false_iff_ne.mpr (Ne.symm e)]
    exact look_none x l fun p hp => h p (List.mem_cons_of_mem _ hp)
theorem zip_rev {α : Type} {x : Str} {u : α} : ∀ {ps : List Str} {us : List α} {i : Nat}, ps.Nodup → ps[i]? = some x → us[i]? = some u → (ps.zip us).reverse.lookup x = some u
  | [], _, _, _, h, _ => by simp at h
  | _ :: _, [], _, _, _, h => by simp at h
  | p :: ps, v :: us, 0, nd, h1, h2 => by
    simp at h1 h2
    subst h1 h2
    rw [List.zip_cons_cons, List.reverse_cons, look_app, look_none]
    · simp [List.lookup]
    · intro q hq e
      have := (List.of_mem_zip (List.mem_reverse.mp hq)).1
      rw [e] at this
      exact (List.nodup_cons.mp nd).1 this
  | p :: ps, v :: us, i + 1, nd, h1, h2 => by
    rw [List.zip_cons_cons, List.reverse_cons, look_app, zip_rev (List.nodup_cons.mp nd).2 (by simpa using h1) (by simpa using h2)]
theorem RelM.newX {K : PySem.W.Frag} {M : Mm} {H : Hp} {p : Addr} {vfs : List (Str × V)} {fs : List (Str × D)} (r : RelM K M H) (h : H p = none) (q : ∀ f d, fs.lookup f = some d → ∃ v, vfs.lookup f = some v ∧ Rep K H d v) :
    RelM K (M.put p (.exd fs)) (upd H p (.xd vfs)) := fun a o e => by
  by_cases ha : a = p
  · subst ha; rw [Mm.put_same] at e; cases e
    exact ⟨vfs, upd_same, fun f d hf => by obtain ⟨v, h1, h2⟩ := q f d hf; exact ⟨v, h1, h2.mono (TX.new h)⟩⟩
  · rw [Mm.put_ne ha] at e; exact r.new h a o e
theorem TxtD.to {K : PySem.W.Frag} {H : Hp} {d : D} {v : V} (r : Rep K H d v) (h : TxtD d) : TxtV v := by
  cases d <;> first | exact h.elim | (cases r; exact h)
section
variable {CX : CXT} {X : Cx} {T : Tb} {Γ : Gm} {W : WX} {lv : Nat}
theorem raise_ok (G : GoodS CX X T Γ W lv) {g : Nat} {x : Str} {e : Expr} {es : List Expr} {m : Exs} {p pos pos2 : Pos} (hcm : T.calm = true) (hg : T.gn[g]? = some (x, none)) (hgl : T.glo x = true) (hp : plainN x = true) (hc : chkEs T m (e :: es) = true) :
    PS X (.Raise (some (.Call (.Name x p) (e :: es) [] pos)) none pos2) (liftSt X.K W fun ρ M K => isErr (Γ.gv g) ∧ evEs Γ m ρ M (fun x => K.ex x ρ) fun ds M1 => raiseD Γ g ds M1 fun x M2 => K.ex x ρ M2) := by
  obtain ⟨p1, _, _⟩ := plainN_ok hp
  have go := G.glob g x none hg
  have A := soundEs m G.toGood (e :: es) hc
  have hst : starEach (e :: es) X.env = (false, eval e X.env) :: starEach es X.env := by
    cases m with
    | nil => simp [chkEs] at hc
    | cons m ms => simp only [chkEs, Bool.and_eq_true] at hc; exact star_ok hc.1 es X.env
  have hpl : (backTo pos (starEach es X.env)).any (·.1) = false := by
    cases m with
    | nil => simp [chkEs] at hc
    | cons m ms => simp only [chkEs, Bool.and_eq_true] at hc; rw [back_any]; exact starAll_ok hc.2 X.env
  cases gv : Γ.gv g with
  | fn n sp dfl => rw [gv] at go; exact go.elim
  | val d => exact PS.imp ps_never fun D σ H ⟨ρ, M, Kd, R, ⟨t, _⟩, _⟩ => t
  | cls C => exact PS.imp ps_never fun D σ H ⟨ρ, M, Kd, R, ⟨t, _⟩, _⟩ => t
  | cla C i => exact PS.imp ps_never fun D σ H ⟨ρ, M, Kd, R, ⟨t, _⟩, _⟩ => t
  | err C fs tx =>
    rw [gv] at go
    obtain ⟨hm, O⟩ := go
    obtain ⟨k, fI, fd, ps, hk, iC, tI, F1, bI⟩ := O.made
    refine PS.imp (ps_raise (G.calm hcm) G.tk (pmk_oex O.oex iC tI F1 ((G.room hcm).mono hk) bI .nil (fun pins σ H s e s' I c => absurd c (G.cx0 _ _ _ _ _)) (G.gl hgl) hm A p1 hst hpl)) fun D σ H q => ?_
    obtain ⟨ρ, M, Kd, R, ⟨_, t⟩, kn, kr, kb, kc, kx⟩ := q
    refine ⟨ρ, M, _, _, R, t, fun ds M1 vs H1 e1 R1 r1 t1 => ?_, fun x M' c dd H' e R' rx q' => kx x ρ M' σ c dd H' e R' rx q'⟩
    unfold raiseD at t1
    rw [gv] at t1
    obtain ⟨hne, hl, htx, t1⟩ := t1
    have hlen := r1.length
    refine ⟨by have := O.few; omega, fun a ha => ⟨a, vs, by rw [List.append_nil], by omega, upd_same, fun i hi => ?_, .inr ⟨hne, fun dx H' hdx hda ea ed hoth => ⟨rfl, dx, _, ea, ed, ?_, ?_⟩⟩⟩⟩
    · obtain ⟨d, hd, ht⟩ := htx i hi
      obtain ⟨v, hv, rv⟩ := r1.get hd
      exact ⟨v, hv, ht.to rv⟩
    · rw [← hdx, upd_ne hda]
    · have hd1 : H1 dx = none := by rw [← hdx, upd_ne hda]
      have eH : upd (L2.del H' a) dx (.xd (fs.zip vs).reverse) = upd H1 dx (.xd (fs.zip vs).reverse) := by
        funext b
        by_cases hb : b = dx
        · subst hb; rw [upd_same, upd_same]
        · rw [upd_ne hb, upd_ne hb]
          by_cases hba : b = a
          · subst hba; rw [L2.del_same, ha]
          · rw [L2.del_ne hba, hoth b hba hb, upd_ne hba]
      rw [eH]
      refine kx ⟨C, some dx⟩ ρ _ σ _ _ _ (e1.trans (TX.new hd1)) ⟨R1.env.mono (TX.new hd1), R1.mem.newX hd1 fun f d hf => ?_⟩ ⟨rfl, rfl⟩ (t1 dx (R1.mem.free hd1))
      obtain ⟨i, h1, h2⟩ := lookup_zip hf
      obtain ⟨v, hv, rv⟩ := r1.get h2
      exact ⟨v, zip_rev O.nd h1 hv, rv⟩
theorem mk_bare {pins : List (Addr × Obj)} {σ : St} {H1 : Hp} {Q : XK} {hp hp2 h2 : Heap} {g1 g2 : Array GenState} {d1 d2 : Drawn} {t1 t2 : Nat} {os1 os2 : OsState} {a C : Addr} (r : Raises X (.ref C)) (I1 : Inv X pins σ H1 ⟨hp, g1, d1, t1, os1⟩)
    (ha : hp.objs.size ≤ a) (k : ∀ b o, hp.get? b = some o → hp2.get? b = some o) (un : Un (frs X.stack) [] (upd H1 a (exo a C none)) (upd H1 a (exo a C none)) hp2 h2) (hok : HOk X.prog X.w (upd H1 a (exo a C none)) h2) (ho : os2 = os1) (hb : PyProof.Rows.AllBare g2)
    (q : Q (.ref C) none H1) : MkP X pins σ Q (.ref a) ⟨h2, g2, d2, t2, os2⟩ := by
  obtain ⟨t0, hoe⟩ := exo_at hok (e := a) upd_same
  have hn : H1 a = none := I1.hok.fresh ha
  obtain ⟨G, l1, l2⟩ := restrict h2 fun b => decide (b ≠ a)
  have gk : ∀ b, b ≠ a → G.get? b = h2.get? b := fun b z => l1 b (decide_eq_true z)
  have ge : G.get? a = none := l2 a (by simp)
  have ne : ∀ {b : Addr} {o : Obj}, hp.get? b = some o → b ≠ a := fun z => Nat.ne_of_lt (Nat.lt_of_lt_of_le (Heap.lt_size z) ha)
  have up : ∀ {b : Addr} {v : Option HO}, b ≠ a → H1 b = v → upd H1 a (exo a C none) b = v := fun z n => by rw [upd_ne z, n]
  have U : Un (frs X.stack) [] H1 H1 hp G := {
    keep := fun b o z n f x => (gk b (ne z)).trans (un.keep b o (k b o z) (up (ne z) n) f x)
    slot := fun b o z n f x => by rw [gk b (ne z)]; exact un.slot b o (k b o z) (up (ne z) n) f x
    free := fun b o z n x => n
    there := fun b o z x => by rw [gk b (ne z)]; exact un.there b o (k b o z) x
    tups := fun b xs z => z
    frzs := fun b o v z => z
    tbls := fun b ps z => ⟨#[], by rw [z]; simp⟩ }
  have hok3 : HOk X.prog X.w H1 G := fun b o z => by
    have hba : b ≠ a := fun e => by rw [e, hn] at z; cases z
    refine (hok b o (up hba z)).stay (fun c v hc y => ?_) (fun c hc => ?_) (fun c xs hc => ?_)
    · refine (gk c ?_).trans y
      rcases hc with hc | hc
      · rw [hc]; exact hba
      · exact at_ne upd_same hc exo_own
    · rwa [upd_ne (at_ne upd_same hc exo_own)] at hc
    · rwa [upd_ne (at_ne upd_same hc exo_tup)] at hc
  have J : Inv X pins σ H1 ⟨G, g2, d2, t2, os2⟩ := I1.call' (ch := []) ho U hok3 hb (fun b z => absurd z (by simp))
  refine ⟨a, _, _, ⟨G, g2, d2, t2, os2⟩, _, .ref C, none, rfl, J, fun b o z => ?_, ge, hoe, ⟨rfl, rfl⟩, rfl, rfl, hn, rfl, hb, r, q⟩
  by_cases hba : b = a
  · rw [hba, show (⟨G, g2, d2, t2, os2⟩ : Shared).heap.get? a = none from ge] at z; cases z
  · exact (gk b hba).symm.trans z
theorem pmk_bare {x : Str} {C fI : Addr} {k : Nat} {fd : FuncData} {ps : List Str} {p pos : Pos} (T : OexC X.K C) (iC : PySem.W.findIn X.K (.ref C) "__init__" = some (some (.ref fI))) (tI : PySem.W.typeIn X.K (.ref fI) = some (.type "function"))
    (F1 : FnOk X.prog X.w X.K X.mg X.base CX k fI fd ps (spInit C [] [])) (hr : Room (k + 1) X.A) (bi : Binds X.K fd ps []) (hx : Passes CX X (fun _ _ _ => False)) (hg : Gl X x) (hm : X.mg x = some (.ref C)) (hdb : (x == ("__debug__" : Str)) = false) :
    PMk X (.Call (.Name x p) [] [] pos) (fun _ H Q => Q (.ref C) none H) := by
  intro pins s σ H Q I h
  obtain ⟨nm, q, N, bs, bm, sn, sub, ab, col, dd, k0, k1, k2, k3, k5, hC, hbm⟩ := T.cls
  refine wpAny_Call_Name_kw (ld_glob I hg hm ?_ hdb)
  refine PySem.W.callWith_K0 I.kIn T.kC ?_
  show wpAny _ _ (call (.ref C) []) _ _ _
  obtain ⟨hp, g, dr, tk, os⟩ := s
  have hsz : hp.objs.size ≤ hp.objs.size + 1 := Nat.le_succ _
  have kk : ∀ b o, hp.get? b = some o → ((hp.push (PySem.W.kdv_tup [])).push (PySem.HandSPX.excO C hp.objs.size)).get? b = some o := fun b o e => (Heap.get?_push_of_some _ (Heap.get?_push_of_some _ e))
  have hget : ((hp.push (PySem.W.kdv_tup [])).push (PySem.HandSPX.excO C hp.objs.size)).get? (hp.objs.size + 1) = some (PySem.HandSPX.excO C hp.objs.size) := by heap_get
  have I2 : Inv X pins σ (upd H (hp.objs.size + 1) (exo (hp.objs.size + 1) C none)) ⟨(hp.push (PySem.W.kdv_tup [])).push (PySem.HandSPX.excO C hp.objs.size), g, dr, tk, os⟩ :=
    I.laid (t' := tk) (a := hp.objs.size + 1) (o := exo (hp.objs.size + 1) C none) (h' := (hp.push (PySem.W.kdv_tup [])).push (PySem.HandSPX.excO C hp.objs.size)) kk hsz (exo_ok hget)
  have r2 : Vals [V.ref (hp.objs.size + 1)] [Value.ref (hp.objs.size + 1)] := .cons rfl .nil
  have hq : spInit C [] [] [V.ref (hp.objs.size + 1)] (upd H (hp.objs.size + 1) (exo (hp.objs.size + 1) C none)) (fun v H2 => v = V.non ∧ H2 = upd H (hp.objs.size + 1) (exo (hp.objs.size + 1) C none)) (fun _ _ _ => False) :=
    ⟨_, [], rfl, rfl, upd_same, fun i hi => (by cases hi), .inl ⟨rfl, rfl, rfl⟩⟩
  have hl : ([Value.ref (hp.objs.size + 1)] ++ []).length = ps.length := (F1.len _ _ _ _ hq)
  refine wpAny_call (PySem.HandSPX.call_own F.excBase_ValueError (fun Y => PySem.HandSPX.refsVE_contains Y bm hbm) (I.kIn _ _ hC) (PySem.W.looks_findIn I.kIn iC) (fun self => PySem.W.bind_fn I.kIn self tI) (Nat.zero_le _)
    (codeAny_mono (F1.run _ X.stack _ _ ⟨[Value.ref (hp.objs.size + 1)], []⟩ [Value.ref (hp.objs.size + 1)] _ _ (fun _ _ _ => False) (hr.make C [] []) (I2.env0.make C [] []) (bi _ [Value.ref (hp.objs.size + 1)] I2.kIn hl) r2 hq) fun r s' hq' => ?_))
  cases r with
  | error er => exact hx pins σ _ _ er s' I2 hq'
  | ok fl =>
    cases fl with
    | ret u =>
      obtain ⟨v, H2, os2, bare2, un2, hok2, rv, ev, eH⟩ := hq'
      subst ev eH
      obtain ⟨h2, g2, d2, t2, os'⟩ := s'
      exact ⟨rv, mk_bare (raises_own T.exC T.tyC) I hsz kk un2 hok2 os2 bare2 h⟩
    | next => exact False.elim hq'
    | brk => exact False.elim hq'
    | cont => exact False.elim hq'
theorem raise0_ok (G : GoodS CX X T Γ W lv) {g : Nat} {x : Str} {p pos pos2 : Pos} (hcm : T.calm = true) (hg : T.gn[g]? = some (x, none)) (hgl : T.glo x = true) (hp : plainN x = true) :
    PS X (.Raise (some (.Call (.Name x p) [] [] pos)) none pos2) (liftSt X.K W fun ρ M K => raise0D Γ g M fun x M2 => K.ex x ρ M2) := by
  obtain ⟨p1, _, _⟩ := plainN_ok hp
  have go := G.glob g x none hg
  cases gv : Γ.gv g with
  | fn n sp dfl => rw [gv] at go; exact go.elim
  | val d => exact PS.imp ps_never fun D σ H ⟨ρ, M, Kd, R, t, _⟩ => by unfold raise0D at t; rw [gv] at t; exact t
  | cls C => exact PS.imp ps_never fun D σ H ⟨ρ, M, Kd, R, t, _⟩ => by unfold raise0D at t; rw [gv] at t; exact t
  | cla C i => exact PS.imp ps_never fun D σ H ⟨ρ, M, Kd, R, t, _⟩ => by unfold raise0D at t; rw [gv] at t; exact t
  | err C fs tx =>
    rw [gv] at go
    obtain ⟨hm, O⟩ := go
    by_cases hz : fs = [] ∧ tx = []
    · obtain ⟨rfl, rfl⟩ := hz
      obtain ⟨k, fI, fd, ps, hk, iC, tI, F1, bI⟩ := O.made
      refine PS.imp (ps_raise (G.calm hcm) G.tk (pmk_bare O.oex iC tI F1 ((G.room hcm).mono hk) bI (fun pins σ H s e s' I c => absurd c (G.cx0 _ _ _ _ _)) (G.gl hgl) hm p1)) fun D σ H q => ?_
      obtain ⟨ρ, M, Kd, R, t, kn, kr, kb, kc, kx⟩ := q
      unfold raise0D at t
      rw [gv] at t
      exact kx ⟨C, none⟩ ρ M σ _ _ H (TX.refl H) R ⟨rfl, rfl⟩ t
    · refine PS.imp ps_never fun D σ H ⟨ρ, M, Kd, R, t, _⟩ => ?_
      unfold raise0D at t
      rw [gv] at t
      cases fs <;> cases tx <;> first | exact t | exact hz ⟨rfl, rfl⟩
theorem GlobOk.move {Y : Cx} (hP : Y.prog = X.prog) (hw : Y.w = X.w) (hK : Y.K = X.K) (hm : Y.mg = X.mg) (hb : Y.base = X.base) {x : Str} {o : Option (Nat × Nat)} {g : GV} (h : GlobOk CX X lv x o g) : GlobOk CX Y lv x o g := by
  cases o with
  | some nk => cases g <;> simp only [GlobOk, hP, hw, hK, hm, hb] at h ⊢ <;> exact h
  | none => cases g <;> simp only [GlobOk, hP, hw, hK, hm, hb] at h ⊢ <;> exact h
theorem GoodS.tr (G : GoodS CX X T Γ W lv) (hcm : T.calm = true) {pn : List (Addr × Obj)} {xe : Value → Shared → Prop} {W' : WX} (tk : Takes (X.tr pn xe) W') (own : PassesOwn (model X.prog X.w) X.A X.env xe) : GoodS CX (X.tr pn xe) T Γ W' lv where
  n := G.n
  nd := G.nd
  calm := G.calm
  sc := G.sc
  room := G.room
  hu := G.hu
  fn := G.fn
  xn := G.xn
  gcd := G.gcd
  glob := fun g x o h => (G.glob g x o h).move (Y := X.tr pn xe) rfl rfl rfl rfl rfl
  fld := G.fld
  kwc := G.kwc
  mt := G.mt
  pr := G.pr
  isi := G.isi
  nf := G.nf
  kwm := G.kwm
  xfl := G.xfl
  sub := G.sub
  exn := fun z => absurd z (by rw [hcm]; decide)
  pass := fun σ => by rw [G.hcx]; exact passAt (X := X.tr pn xe) tk σ
  cx0 := G.cx0
  own := own
  tk := tk
  hcx := G.hcx
  stk := G.stk
  frm := G.frm
theorem GoodS.suite (G : GoodS CX X T Γ W lv) {a C : Addr} {d : Option Addr} {oe : Obj} {pn : List (Addr × Obj)} (hz : Zc (.ref C) d oe) (hf : ∃ vs, oe.data = .fields vs) : GoodS CX (X.suite a ((a, oe) :: pn)) T.sui { Γ with exn := some (a, C, d) } W0 lv where
  n := G.n
  nd := G.nd
  calm := fun z => by cases z
  sc := G.sc
  room := fun z => by cases z
  hu := G.hu
  fn := G.fn
  xn := G.xn
  gcd := G.gcd
  glob := fun g x o h => (G.glob g x o h).move (Y := X.suite a ((a, oe) :: pn)) rfl rfl rfl rfl rfl
  fld := G.fld
  kwc := G.kwc
  mt := G.mt
  pr := G.pr
  isi := G.isi
  nf := G.nf
  kwm := G.kwm
  xfl := G.xfl
  sub := G.sub
  exn := fun _ a' C' d' e => by cases e; exact ⟨X, oe, pn, rfl, hz, hf⟩
  pass := fun σ pins H' s' e s'' _ c => absurd c (G.cx0 _ _ _ _ _)
  cx0 := G.cx0
  own := PassesOwn.never
  tk := takes0
  hcx := G.hcx
  stk := G.stk
  frm := G.frm
theorem RelE.clr {K : PySem.W.Frag} {H : Hp} {ρ : DEnv} {σ : St} (r : RelE K H ρ σ) (i : Nat) : RelE K H (ρ.set i none) (σ.set i none) := by
  refine ⟨by simp [r.len], fun j e hj => ?_⟩
  by_cases hi : i = j
  · subst hi
    by_cases hl : i < ρ.length
    · rw [List.getElem?_set_self hl] at hj; cases hj
    · rw [List.getElem?_eq_none (by simpa using hl)] at hj; cases hj
  · rw [List.getElem?_set_ne hi] at hj
    obtain ⟨w, a, b⟩ := r.at_ j e hj
    exact ⟨w, by rw [List.getElem?_set_ne hi]; exact a, b⟩
theorem names_of (G : GoodS CX X T Γ W lv) {g : Nat} {x : Str} (hg : T.gn[g]? = some (x, none)) (hgl : T.glo x = true) (hp : plainN x = true) : ∃ u, Names X x u ∧ ∀ C, (Γ.gv g).clsOf = some C → u = .ref C := by
  obtain ⟨p1, _, _⟩ := plainN_ok hp
  have go := G.glob g x none hg
  cases gv : Γ.gv g with
  | fn n sp dfl => rw [gv] at go; exact go.elim
  | val d => rw [gv] at go; obtain ⟨u, v, hu, _⟩ := go; exact ⟨u, ⟨G.gl hgl, p1, .inl hu⟩, fun C h => by cases h⟩
  | err C fs tx => rw [gv] at go; exact ⟨.ref C, ⟨G.gl hgl, p1, .inl go.1⟩, fun C h => by cases h; rfl⟩
  | cls C => rw [gv] at go; exact ⟨.ref C, ⟨G.gl hgl, p1, .inl go⟩, fun C h => by cases h; rfl⟩
  | cla C i => rw [gv] at go; exact ⟨.ref C, ⟨G.gl hgl, p1, .inl go.1⟩, fun C h => by cases h⟩
theorem inv_raise {T : Tb} {g : Nat} {m : Exs} {s : Stmt} (h : chkS T (.raise g m : Sm) s = true) : ∃ x p vs pos pos2, s = .Raise (some (.Call (.Name x p) vs [] pos)) none pos2 ∧ (T.calm && decide (T.gn[g]? = some (x, none)) && T.glo x && plainN x && !vs.isEmpty && chkEs T m vs) = true := by
  cases s <;> first | (exact absurd h Bool.false_ne_true) | skip
  rename_i um1 um2 pos2
  cases um1 <;> first | (exact absurd h Bool.false_ne_true) | skip
  rename_i um3
  cases um3 <;> first | (exact absurd h Bool.false_ne_true) | skip
  rename_i um4 vs um5 pos
  cases um4 <;> first | (exact absurd h Bool.false_ne_true) | skip
  rename_i x p
  cases um5 <;> first | (exact absurd h Bool.false_ne_true) | skip
  cases um2 <;> first | (exact absurd h Bool.false_ne_true) | skip
  exact ⟨_, _, _, _, _, rfl, h⟩
theorem inv_raise0 {T : Tb} {g : Nat} {s : Stmt} (h : chkS T (.raise0 g : Sm) s = true) : ∃ x p pos pos2, s = .Raise (some (.Call (.Name x p) [] [] pos)) none pos2 ∧ (T.calm && decide (T.gn[g]? = some (x, none)) && T.glo x && plainN x) = true := by
  cases s <;> first | (exact absurd h Bool.false_ne_true) | skip
  rename_i um6 um7 pos2
  cases um6 <;> first | (exact absurd h Bool.false_ne_true) | skip
  rename_i um8
  cases um8 <;> first | (exact absurd h Bool.false_ne_true) | skip
  rename_i um9 um10 um11 pos
  cases um9 <;> first | (exact absurd h Bool.false_ne_true) | skip
  rename_i x p
  cases um10 <;> first | (exact absurd h Bool.false_ne_true) | skip
  cases um11 <;> first | (exact absurd h Bool.false_ne_true) | skip
  cases um7 <;> first | (exact absurd h Bool.false_ne_true) | skip
  exact ⟨_, _, _, _, rfl, h⟩
theorem inv_trA {T : Tb} {b s2 : Sms} {i g : Nat} {s : Stmt} (h : chkS T (.trA b i g s2 : Sm) s = true) : ∃ b' x p n s' p2 pos, s = .Try b' [.ExceptHandler (some (.Name x p)) (some n) s' p2] [] [] pos ∧ (T.calm && decide (T.gn[g]? = some (x, none)) && T.glo x && plainN x && decide (T.N[i]? = some n) && decide (T.sc.names.lookup n = some .local) && !s'.isEmpty && chkSs T b b' && chkSs T.sui s2 s') = true := by
  cases s <;> first | (exact absurd h Bool.false_ne_true) | skip
  rename_i b' um12 um13 um14 pos
  cases um12 <;> first | (exact absurd h Bool.false_ne_true) | skip
  rename_i um15 um16
  cases um15 <;> first | (exact absurd h Bool.false_ne_true) | skip
  rename_i um17 um18 s' p2
  cases um17 <;> first | (exact absurd h Bool.false_ne_true) | skip
  rename_i um19
  cases um19 <;> first | (exact absurd h Bool.false_ne_true) | skip
  rename_i x p
  cases um18 <;> first | (exact absurd h Bool.false_ne_true) | skip
  rename_i n
  cases um16 <;> first | (exact absurd h Bool.false_ne_true) | skip
  cases um13 <;> first | (exact absurd h Bool.false_ne_true) | skip
  cases um14 <;> first | (exact absurd h Bool.false_ne_true) | skip
  exact ⟨_, _, _, _, _, _, _, rfl, h⟩
theorem inv_trO {T : Tb} {b s2 : Sms} {g : Nat} {s : Stmt} (h : chkS T (.trO b g s2 : Sm) s = true) : ∃ b' x p s' p2 pos, s = .Try b' [.ExceptHandler (some (.Name x p)) none s' p2] [] [] pos ∧ (T.calm && decide (T.gn[g]? = some (x, none)) && T.glo x && plainN x && !s'.isEmpty && chkSs T b b' && chkSs T.sui s2 s') = true := by
  cases s <;> first | (exact absurd h Bool.false_ne_true) | skip
  rename_i b' um20 um21 um22 pos
  cases um20 <;> first | (exact absurd h Bool.false_ne_true) | skip
  rename_i um23 um24
  cases um23 <;> first | (exact absurd h Bool.false_ne_true) | skip
  rename_i um25 um26 s' p2
  cases um25 <;> first | (exact absurd h Bool.false_ne_true) | skip
  rename_i um27
  cases um27 <;> first | (exact absurd h Bool.false_ne_true) | skip
  rename_i x p
  cases um26 <;> first | (exact absurd h Bool.false_ne_true) | skip
  cases um24 <;> first | (exact absurd h Bool.false_ne_true) | skip
  cases um21 <;> first | (exact absurd h Bool.false_ne_true) | skip
  cases um22 <;> first | (exact absurd h Bool.false_ne_true) | skip
  exact ⟨_, _, _, _, _, _, rfl, h⟩
end
end DL
namespace DL
open PySem PySem.Spec L2
section
variable {CX : CXT} {Γ : Gm} {lv : Nat}
theorem inv_set {T : Tb} {i : Nat} {e : Ex} {s : Stmt} (h : chkS T (.set i e : Sm) s = true) : ∃ x p v pos, s = .Assign [.Name x p] v pos ∧ (decide (T.N[i]? = some x) && T.loc x && !isLc v && chkE T e v) = true := by
  cases s <;> first | (exact absurd h Bool.false_ne_true) | skip
  rename_i um1 v pos
  cases um1 <;> first | (exact absurd h Bool.false_ne_true) | skip
  rename_i um2 um3
  cases um2 <;> first | (exact absurd h Bool.false_ne_true) | skip
  rename_i x p
  cases um3 <;> first | (exact absurd h Bool.false_ne_true) | skip
  exact ⟨_, _, _, _, rfl, h⟩
theorem inv_setLc {T : Tb} {i : Nat} {own : List Nat} {tg : Tg} {it : Si} {c : Teo} {e : Ex} {s : Stmt} (h : chkS T (.setLc i own tg it c e : Sm) s = true) : ∃ x p e' gs scope cp pos, s = .Assign [.Name x p] (.ListComp e' gs scope cp) pos ∧ (decide (T.N[i]? = some x) && ((decide (T.sc.names.lookup x = some .local) && (p.line == cp.line) && !(scope.names.any fun (n, k) => n == x && (k == .local || k == .cell))) || decide (T.sc.names.lookup x = some .cell) && T.loc x) && chkE T (.lc own tg it c e) (.ListComp e' gs scope cp)) = true := by
  cases s <;> first | (exact absurd h Bool.false_ne_true) | skip
  rename_i um4 um5 pos
  cases um4 <;> first | (exact absurd h Bool.false_ne_true) | skip
  rename_i um6 um7
  cases um6 <;> first | (exact absurd h Bool.false_ne_true) | skip
  rename_i x p
  cases um7 <;> first | (exact absurd h Bool.false_ne_true) | skip
  cases um5 <;> first | (exact absurd h Bool.false_ne_true) | skip
  rename_i e' gs scope cp
  exact ⟨_, _, _, _, _, _, _, rfl, h⟩
theorem inv_setT {T : Tb} {tg : Tg} {e : Ex} {s : Stmt} (h : chkS T (.setT tg e : Sm) s = true) : ∃ t v pos, s = .Assign [t] v pos ∧ (isTup t && noSwap t v && !isLc v && chkTg T tg t && chkE T e v) = true := by
  cases s <;> first | (exact absurd h Bool.false_ne_true) | skip
  rename_i um8 v pos
  cases um8 <;> first | (exact absurd h Bool.false_ne_true) | skip
  rename_i t um9
  cases um9 <;> first | (exact absurd h Bool.false_ne_true) | skip
  exact ⟨_, _, _, rfl, h⟩
theorem inv_par {T : Tb} {i : Nat} {j : Nat} {a : Ex} {b : Ex} {s : Stmt} (h : chkS T (.par i j a b : Sm) s = true) : ∃ x px y py kt pt a' b' k2 pt2 pos, s = .Assign [.Tuple [.Name x px, .Name y py] kt pt] (.Tuple [a', b'] k2 pt2) pos ∧ (decide (T.N[i]? = some x) && decide (T.N[j]? = some y) && decide (i ≠ j) && decide (T.sc.names.lookup x = some .local) && decide (T.sc.names.lookup y = some .local) && (px.line == py.line) && decide (x ≠ y) && !([a', b'].all (foldedForSure 8)) && !([a', b'].all (constantsAlone 8)) && T.calm && chkE T a a' && chkE T b b') = true := by
  cases s <;> first | (exact absurd h Bool.false_ne_true) | skip
  rename_i um10 um11 pos
  cases um10 <;> first | (exact absurd h Bool.false_ne_true) | skip
  rename_i um12 um13
  cases um12 <;> first | (exact absurd h Bool.false_ne_true) | skip
  rename_i um14 kt pt
  cases um14 <;> first | (exact absurd h Bool.false_ne_true) | skip
  rename_i um15 um16
  cases um15 <;> first | (exact absurd h Bool.false_ne_true) | skip
  rename_i x px
  cases um16 <;> first | (exact absurd h Bool.false_ne_true) | skip
  rename_i um17 um18
  cases um17 <;> first | (exact absurd h Bool.false_ne_true) | skip
  rename_i y py
  cases um18 <;> first | (exact absurd h Bool.false_ne_true) | skip
  cases um13 <;> first | (exact absurd h Bool.false_ne_true) | skip
  cases um11 <;> first | (exact absurd h Bool.false_ne_true) | skip
  rename_i um19 k2 pt2
  cases um19 <;> first | (exact absurd h Bool.false_ne_true) | skip
  rename_i a' um20
  cases um20 <;> first | (exact absurd h Bool.false_ne_true) | skip
  rename_i b' um21
  cases um21 <;> first | (exact absurd h Bool.false_ne_true) | skip
  exact ⟨_, _, _, _, _, _, _, _, _, _, _, rfl, h⟩
theorem inv_setS {T : Tb} {a : Ex} {b : Ex} {e : Ex} {s : Stmt} (h : chkS T (.setS a b e : Sm) s = true) : ∃ a' b' p v pos, s = .Assign [.Subscript a' b' p] v pos ∧ (!isLc v && chkE T a a' && chkE T b b' && chkE T e v) = true := by
  cases s <;> first | (exact absurd h Bool.false_ne_true) | skip
  rename_i um22 v pos
  cases um22 <;> first | (exact absurd h Bool.false_ne_true) | skip
  rename_i um23 um24
  cases um23 <;> first | (exact absurd h Bool.false_ne_true) | skip
  rename_i a' b' p
  cases um24 <;> first | (exact absurd h Bool.false_ne_true) | skip
  exact ⟨_, _, _, _, _, rfl, h⟩
theorem inv_setF {T : Tb} {a : Ex} {f : Str} {e : Ex} {s : Stmt} (h : chkS T (.setF a f e : Sm) s = true) : ∃ a' f' p v pos, s = .Assign [.Attribute a' f' p] v pos ∧ (decide (f = f') && !isLc v && chkE T a a' && chkE T e v) = true := by
  cases s <;> first | (exact absurd h Bool.false_ne_true) | skip
  rename_i um25 v pos
  cases um25 <;> first | (exact absurd h Bool.false_ne_true) | skip
  rename_i um26 um27
  cases um26 <;> first | (exact absurd h Bool.false_ne_true) | skip
  rename_i a' f' p
  cases um27 <;> first | (exact absurd h Bool.false_ne_true) | skip
  exact ⟨_, _, _, _, _, rfl, h⟩
theorem inv_set2 {T : Tb} {tg : Tg} {i : Nat} {e : Ex} {s : Stmt} (h : chkS T (.set2 tg i e : Sm) s = true) : ∃ t x p v pos, s = .Assign [t, .Name x p] v pos ∧ (isTup t && chkTg T tg t && decide (T.N[i]? = some x) && T.loc x && chkE T e v) = true := by
  cases s <;> first | (exact absurd h Bool.false_ne_true) | skip
  rename_i um28 v pos
  cases um28 <;> first | (exact absurd h Bool.false_ne_true) | skip
  rename_i t um29
  cases um29 <;> first | (exact absurd h Bool.false_ne_true) | skip
  rename_i um30 um31
  cases um30 <;> first | (exact absurd h Bool.false_ne_true) | skip
  rename_i x p
  cases um31 <;> first | (exact absurd h Bool.false_ne_true) | skip
  exact ⟨_, _, _, _, _, rfl, h⟩
theorem inv_setTl {T : Tb} {ts : Tgs} {e : Ex} {s : Stmt} (h : chkS T (.setTl ts e : Sm) s = true) : ∃ es k p v pos, s = .Assign [.Tuple es k p] v pos ∧ (T.calm && !isTup v && chkTgs T ts es && chkE T e v) = true := by
  cases s <;> first | (exact absurd h Bool.false_ne_true) | skip
  rename_i um32 v pos
  cases um32 <;> first | (exact absurd h Bool.false_ne_true) | skip
  rename_i um33 um34
  cases um33 <;> first | (exact absurd h Bool.false_ne_true) | skip
  rename_i es k p
  cases um34 <;> first | (exact absurd h Bool.false_ne_true) | skip
  exact ⟨_, _, _, _, _, rfl, h⟩
theorem inv_ret {T : Tb} {e : Ex} {s : Stmt} (h : chkS T (.ret e : Sm) s = true) : ∃ v pos, s = .Return (some v) pos ∧ (chkE T e v) = true := by
  cases s <;> first | (exact absurd h Bool.false_ne_true) | skip
  rename_i um35 pos
  cases um35 <;> first | (exact absurd h Bool.false_ne_true) | skip
  rename_i v
  exact ⟨_, _, rfl, h⟩
theorem inv_retN {T : Tb}  {s : Stmt} (h : chkS T (.retN : Sm) s = true) : ∃ pos, s = .Return none pos ∧ (true) = true := by
  cases s <;> first | (exact absurd h Bool.false_ne_true) | skip
  rename_i um36 pos
  cases um36 <;> first | (exact absurd h Bool.false_ne_true) | skip
  exact ⟨_, rfl, h⟩
theorem inv_expr {T : Tb} {e : Ex} {s : Stmt} (h : chkS T (.expr e : Sm) s = true) : ∃ v pos, s = .Expr v pos ∧ (!isLc v && chkE T e v) = true := by
  cases s <;> first | (exact absurd h Bool.false_ne_true) | skip
  rename_i v pos
  exact ⟨_, _, rfl, h⟩
theorem inv_ifs {T : Tb} {c : Te} {a : Sms} {b : Sms} {s : Stmt} (h : chkS T (.ifs c a b : Sm) s = true) : ∃ c' a' b' pos, s = .If c' a' b' pos ∧ (chkT T c c' && chkSs T a a' && chkSs T b b') = true := by
  cases s <;> first | (exact absurd h Bool.false_ne_true) | skip
  rename_i c' a' b' pos
  exact ⟨_, _, _, _, rfl, h⟩
theorem inv_whl {T : Tb} {c : Te} {b : Sms} {s : Stmt} (h : chkS T (.whl c b : Sm) s = true) : ∃ c' b' pos, s = .While c' b' [] pos ∧ (chkT T c c' && chkSs T b b') = true := by
  cases s <;> first | (exact absurd h Bool.false_ne_true) | skip
  rename_i c' b' um37 pos
  cases um37 <;> first | (exact absurd h Bool.false_ne_true) | skip
  exact ⟨_, _, _, rfl, h⟩
theorem inv_fo {T : Tb} {tg : Tg} {it : Si} {b : Sms} {s : Stmt} (h : chkS T (.fo tg it b : Sm) s = true) : ∃ t it' b' pos, s = .For t it' b' [] pos ∧ (T.calm && chkTg T tg t && chkI T (isTup t) it it' && chkSs T b b') = true := by
  cases s <;> first | (exact absurd h Bool.false_ne_true) | skip
  rename_i t it' b' um38 pos
  cases um38 <;> first | (exact absurd h Bool.false_ne_true) | skip
  exact ⟨_, _, _, _, rfl, h⟩
theorem inv_brk {T : Tb}  {s : Stmt} (h : chkS T (.brk : Sm) s = true) : ∃ pos, s = .Break pos ∧ (true) = true := by
  cases s <;> first | (exact absurd h Bool.false_ne_true) | skip
  rename_i pos
  exact ⟨_, rfl, h⟩
theorem inv_cont {T : Tb}  {s : Stmt} (h : chkS T (.cont : Sm) s = true) : ∃ pos, s = .Continue pos ∧ (true) = true := by
  cases s <;> first | (exact absurd h Bool.false_ne_true) | skip
  rename_i pos
  exact ⟨_, rfl, h⟩
theorem pg_or {X : Cx} {e : Expr} {t1 t2 : TG} (h1 : PG X e t1) (h2 : PG X e t2) : PG X e (fun v σ H Q => t1 v σ H Q ∨ t2 v σ H Q) :=
  ⟨fun pins s σ H v u Q I r q => q.elim (h1.run pins s σ H v u Q I r) (h2.run pins s σ H v u Q I r)⟩
theorem asg1 {T : Tb} {tg : Tg} {t : Expr} (h : chkTg T tg t = true) (env : PySem.Env) : (assignEach [t] env).map (·.2) = [assign t env] := by
  cases tg <;> cases t <;> first | rfl | (simp [chkTg] at h)
theorem asg2 {T : Tb} {tg : Tg} {t : Expr} (h : chkTg T tg t = true) (x : Str) (p : Pos) (env : PySem.Env) : (assignEach [t, .Name x p] env).map (·.2) = [assign t env, assign (.Name x p) env] := by
  cases tg <;> cases t <;> first | rfl | (simp [chkTg] at h)
theorem asgK {K : PySem.W.Frag} {W : WX} {td : TD} {g : TG} {tg : D → DEnv → (DEnv → Prop) → Prop} {ss : List Nat} {D : Ends} {σ : St} {H : Hp}
    (hg : ∀ v σ H Q, liftG K ss tg v σ H Q → g v σ H Q)
    (q : liftSt K W (fun ρ M Kd => td ρ M (fun x => Kd.ex x ρ) fun d M1 => tg d ρ fun ρ2 => Kd.nx ρ2 M1) D σ H) : tAsg (lift K W td) g D σ H := by
  obtain ⟨ρ, M, Kd, R, t, kn, kr, kb, kc, kx⟩ := q
  refine ⟨ρ, M, _, _, R, t, fun d M1 v H1 e1 R1 r1 t1 => hg _ _ _ _ ⟨d, ρ, M1, _, r1, R1, t1, fun ρ' σ' R' _ _ q' => kn ρ' M1 σ' H1 e1 R' q'⟩, fun x M' c dd H' e R' rx q' => kx x ρ M' σ c dd H' e R' rx q'⟩
theorem setG {K : PySem.W.Frag} {i : Nat} : ∀ v σ H Q, liftG K [i] (fun d ρ Q => Q (ρ.set i (some d))) v σ H Q → gName i v σ H Q := fun v σ H Q q => by
  obtain ⟨d, ρ, M, Qd, rd, R, q, k⟩ := q
  exact k _ _ ⟨R.env.set rd, R.mem⟩ (by simp) (fun j hj => List.getElem?_set_ne (by simp at hj; omega)) q
theorem par_ok {x y : Str} {px py pt pt2 : Pos} {a b : Expr} {kt k2 : Nat} {env : PySem.Env} (hk : env.scope.kind = .function) (hx : env.scope.names.lookup x = some .local) (hy : env.scope.names.lookup y = some .local) (hl : (px.line == py.line) = true) (hxy : x ≠ y)
    (h1 : ([a, b].all (foldedForSure 8)) = false) (h2 : ([a, b].all (constantsAlone 8)) = false) (h3 : ([a, b].any fun | .Starred .. => true | _ => false) = false) :
    swappedStores [.Tuple [.Name x px, .Name y py] kt pt] (.Tuple [a, b] k2 pt2) env = pure (some [x, y]) := by
  have hb : env.blockKind = .function := by unfold PySem.Env.blockKind; rw [hk]; rfl
  have kx : env.kindOf x = some .local := hx
  have ky : env.kindOf y = some .local := hy
  have hyl : (py.line == px.line) = true := by rw [beq_iff_eq] at hl ⊢; exact hl.symm
  unfold swappedStores
  simp only [List.length_cons, List.length_nil, hb, h3, List.head?_cons, Option.map_some, Expr.pos, Option.getD_some, List.filterMap_cons, kx, ky, hyl, beq_self_eq_true, Bool.and_self, if_true, List.filterMap_nil, h1, h2]
  have e1 : ([x, y] : List Str).eraseDups.length = 2 := by
    have : (y == x) = false := beq_eq_false_iff_ne.mpr (Ne.symm hxy)
    simp [List.eraseDups_cons, this]
  simp only [List.any_cons, List.any_nil, Bool.or_false, Bool.or_eq_false_iff] at h3
  simp [e1]
  intro z
  rcases z with z | z
  · exact absurd (z.symm.trans h3.1) (by simp)
  · exact absurd (z.symm.trans h3.2) (by simp)
def isStar : Expr → Bool
  | .Starred _ _ => true
  | _ => false
theorem star_key : ∀ e : Expr, isStar e = false → (match e with | .Starred .. => true | _ => false) = false := by
  intro e he
  cases e <;> first | rfl | (simp [isStar] at he)
theorem chk_star {T : Tb} {m : Ex} {e : Expr} (h : chkE T m e = true) : isStar e = false := by
  cases e <;> first | rfl | (cases m <;> simp [chkE] at h)
theorem any_star {T : Tb} {m n : Ex} {a b : Expr} (ha : chkE T m a = true) (hb : chkE T n b = true) : ([a, b].any fun | .Starred .. => true | _ => false) = false := by
  have h1 := star_key a (chk_star ha)
  have h2 := star_key b (chk_star hb)
  simp only [List.any_cons, List.any_nil, Bool.or_false]
  rw [h1, h2]
  rfl
theorem lc_imp {K : PySem.W.Frag} {W : WX} {T : Tb} {own : List Nat} {tg : Tg} {it : Si} {c : Teo} {e : Ex} (hss' : ∀ i ∈ tg.ss, i ∈ own) {σ : St} {H : Hp} {Q : VK} (q : lift K W (evE Γ (.lc own tg it c e)) σ H Q) :
    tLc (liftI K W (evI Γ it)) (liftG K tg.ss (tgD tg)) (liftT K W0 (evC Γ c)) (lift K W0 (evE Γ e)) ((T.own own).map (·.2)) σ H Q := by
  obtain ⟨ρ, M, E, Qd, R, t, k, x⟩ := q
  simp only [evE] at t
  refine ⟨ρ, M, E, _, R, t, fun items G' M1 J H1 e1 R1 w t1 => ?_, x⟩
  intro p hp
  rw [own_map]
  refine comp_ok w R1 hp (t1 p (R1.mem.free hp)) (fun M5 H5 e5 m5 q5 => k _ _ _ _ (e1.trans e5) (R_of R1 e5 m5) (.ref p) q5) fun d xv M H2 H3 Kk Nx e2 m2 rx st kk => ?_
  refine ⟨d, wipeD ρ own, M, _, rx, ⟨wipe_rel (R1.env.mono e2) own, m2⟩, st, fun ρ2 σ2 R2 l2 s2 t2 => ⟨wipe_back hss' l2 s2, ρ2, M, E0, _, R2, t2, fun b M3 H4 e3 R3 t3 => ?_, fun _ _ _ _ _ _ _ _ z => z.elim⟩⟩
  cases b with
  | true => exact ⟨ρ2, M3, E0, _, R3, t3, fun d4 M4 v4 H5 e4 R4 r4 t4 => kk (some d4) M4 (some v4) H5 ((e2.trans e3).trans e4) R4.mem r4 t4, fun _ _ _ _ _ _ _ _ z => z.elim⟩
  | false => exact kk none M3 none H4 (e2.trans e3) R3.mem trivial t3
theorem sub_asg {T : Tb} {m : Ex} {i : Expr} (h : chkE T m i = true) (o : Expr) (pos : Pos) {env : PySem.Env} : ∀ v, assign (.Subscript o i pos) env v = (do
      let ov ← holding [v] (eval o env)
      let iv ← holding [v, ov] (eval i env)
      standAt pos
      holding [v, ov, iv] (setItem ov iv v)
      release [v, ov, iv] []) := by
  intro v
  cases i <;> first | rfl | (cases m <;> simp [chkE] at h)
theorem len_putD (f : Str) (d : D) : ∀ fs : List (Str × D), (putD f d fs).length = if (fs.lookup f).isSome then fs.length else fs.length + 1
  | [] => rfl
  | (g, e) :: r => by
    unfold putD
    by_cases h : g = f
    · subst h; simp [List.lookup]
    · rw [if_neg h, List.length_cons, len_putD f d r]
      simp only [List.lookup, beq_eq_false_iff_ne.mpr (Ne.symm h), List.length_cons]
      split <;> rfl
theorem len_putF (f : Str) (d : V) : ∀ fs : List (Str × V), (putF f d fs).length = if (fs.lookup f).isSome then fs.length else fs.length + 1
  | [] => rfl
  | (g, e) :: r => by
    unfold putF
    by_cases h : g = f
    · subst h; simp [List.lookup]
    · rw [if_neg h, List.length_cons, len_putF f d r]
      simp only [List.lookup, beq_eq_false_iff_ne.mpr (Ne.symm h), List.length_cons]
      split <;> rfl
theorem RelM.putI {K : PySem.W.Frag} {M : Mm} {H : Hp} {a C dx : Addr} {vfs : List (Str × V)} {fs : List (Str × D)} {f : Str} {d : D} {v : V} (m : RelM K M H) (h : H a = some (.ins C dx vfs)) (r : Rep K H d v) (l : vfs.length ≤ fs.length)
    (w3 : ∀ f d, fs.lookup f = some d → ∃ v, vfs.lookup f = some v ∧ Rep K H d v) (w4 : ∀ f, fs.lookup f = none → vfs.lookup f = none) (hl : fs.length < 50) :
    RelM K (M.put a (.ins C (putD f d fs))) (upd H a (.ins C dx (putF f v vfs))) := fun p o hp => by
  have t : TX H (upd H a (.ins C dx (putF f v vfs))) := TX.put h (fun _ z => by cases z) (fun _ _ z => by cases z)
  by_cases ha : p = a
  · subst ha; rw [Mm.put_same] at hp; cases hp
    refine ⟨dx, _, upd_same, ?_, fun g e hg => ?_, fun g hg => ?_⟩
    · rw [len_putD, len_putF]
      cases z : fs.lookup f with
      | none => rw [w4 f z]; simp; omega
      | some e => obtain ⟨u, a1, _⟩ := w3 f e z; rw [a1]; simpa using l
    · rw [lookup_putD] at hg
      rw [lookup_putF]
      by_cases z : g = f
      · rw [if_pos z] at hg; cases hg; rw [if_pos z]; exact ⟨v, rfl, r.mono t⟩
      · rw [if_neg z] at hg ⊢; obtain ⟨u, a1, a2⟩ := w3 g e hg; exact ⟨u, a1, a2.mono t⟩
    · rw [lookup_putD] at hg
      rw [lookup_putF]
      by_cases z : g = f
      · rw [if_pos z] at hg; cases hg
      · rw [if_neg z] at hg ⊢; exact w4 g hg
  · rw [Mm.put_ne ha] at hp; exact (m p o hp).keep t (upd_ne ha)
mutual
theorem soundS : ∀ (m : Sm) {X : Cx} {T : Tb} {W : WX} {Γ : Gm} (G : GoodS CX X T Γ W lv) (e : Stmt), chkS T m e = true → PS X e (liftSt X.K W (evS Γ m))
  | .set i a, X, T, W, Γ, G, e, h => by
    obtain ⟨x, p, v, pos, rfl, hh⟩ := inv_set h
    replace h := hh
    simp only [Bool.and_eq_true, decide_eq_true_eq, Bool.not_eq_true'] at h
    obtain ⟨⟨⟨h1, h2⟩, h3⟩, h4⟩ := h
    obtain ⟨l, f⟩ := G.toGood.loc h2
    exact PS.imp (ps_set G.nd (by rw [G.n]; exact h1) l (soundE a G.toGood v h4) (swaps_no h3 _ _ _) f) fun D σ H q => asgK (tg := fun d ρ Q => Q (ρ.set i (some d))) setG q
  | .setLc i own tg it c a, X, T, W, Γ, G, e, h => by
    obtain ⟨x, p, e', gs, scope, cp, pos, rfl, hh⟩ := inv_setLc h
    replace h := hh
    simp only [Bool.and_eq_true, decide_eq_true_eq, Bool.not_eq_true'] at h
    obtain ⟨⟨h1, h0⟩, h5⟩ := h
    rw [Bool.or_eq_true] at h0
    rcases h0 with h0 | h0
    case inr =>
      simp only [Bool.and_eq_true, decide_eq_true_eq] at h0
      obtain ⟨h2, h3⟩ := h0
      obtain ⟨l, f⟩ := G.toGood.loc h3
      refine PS.imp (ps_set G.nd (by rw [G.n]; exact h1) l (soundE (.lc own tg it c a) G.toGood _ h5) ?_ f) fun D σ H q => asgK (tg := fun d ρ Q => Q (ρ.set i (some d))) setG q
      have hc : X.env.kindOf x = some .cell := by unfold PySem.Env.kindOf; rw [G.sc]; exact h2
      have hk : (NameKind.cell == NameKind.local) = false := by decide
      unfold swapsWith
      simp [hc, hk]
    simp only [Bool.and_eq_true, decide_eq_true_eq, Bool.not_eq_true'] at h0
    obtain ⟨⟨h2, h3⟩, h4⟩ := h0
    match gs, h5 with
    | [⟨tg', it', ifs, asy⟩], h5 =>
      simp only [chkE, Bool.and_eq_true, decide_eq_true_eq] at h5
      obtain ⟨⟨⟨⟨⟨⟨⟨hcm, rfl⟩, hb⟩, hss⟩, ht⟩, hi⟩, hc⟩, he⟩ := h5
      have hss' : ∀ i ∈ tg.ss, i ∈ own := fun i hi => by simpa using List.all_eq_true.mp hss i hi
      refine ⟨fun pins s σ H D I q => ?_⟩
      have G0 := G.toGood
      have hsw : swapsWith (.ListComp e' [⟨tg', it', ifs, 0⟩] scope cp) (some (.Name x p)) pos.line X.env = pure true := sw_true I.ok.kind (by rw [G.sc]; exact h2) h3 h4
      refine (ps_setLc (own := T.own own) (te := lift X.K W0 (evE Γ a)) (tt := liftT X.K W0 (evC Γ c)) (g := liftG X.K tg.ss (tgD tg)) (G.calm hcm) G.nd (by rw [G.n]; exact h1) (by rw [G.sc]; exact h2) hsw (soundI it G0 tg' it' hi) (by rw [G.n, G.sc]; exact blkOk_by hb)
        (fun s H C cl fp => soundG (G0.blk hcm s H scope C cl fp) tg tg' ht) (fun s H C cl fp => soundC c (G0.blk hcm s H scope C cl fp) ifs hc) (fun s H C cl fp => soundE a (G0.blk hcm s H scope C cl fp) e' he) (iter_ok hi X.env)).run pins s σ H D I ?_
      have q2 : tAsg (lift X.K W (evE Γ (.lc own tg it c a))) (gName i) D σ H := asgK (tg := fun d ρ Q => Q (ρ.set i (some d))) setG q
      exact lc_imp hss' q2
  | .setT tg a, X, T, W, Γ, G, e, h => by
    obtain ⟨t, v, pos, rfl, hh⟩ := inv_setT h
    replace h := hh
    simp only [Bool.and_eq_true, Bool.not_eq_true'] at h
    obtain ⟨⟨⟨⟨h1, h2⟩, h3⟩, h4⟩, h5⟩ := h
    exact PS.imp (ps_asg (soundE a G.toGood v h5) (soundG G.toGood tg t h4) (swaps_no h3 _ _ _) (swapped_no h2 _) (asg1 h4 _)) fun D σ H q => asgK (tg := fun d ρ Q => tgD tg d ρ Q) (fun _ _ _ _ q => q) q
  | .par i j a b, X, T, W, Γ, G, e, h => by
    obtain ⟨x, px, y, py, kt, pt, a', b', k2, pt2, pos, rfl, hh⟩ := inv_par h
    replace h := hh
    simp only [Bool.and_eq_true, decide_eq_true_eq, Bool.not_eq_true'] at h
    obtain ⟨⟨⟨⟨⟨⟨⟨⟨⟨⟨⟨h1, h2⟩, h3⟩, h4⟩, h5⟩, h6⟩, h7⟩, h8⟩, h9⟩, hcm⟩, ha⟩, hb⟩ := h
    have k : X.env.scope.kind = .function → swappedStores [.Tuple [.Name x px, .Name y py] kt pt] (.Tuple [a', b'] k2 pt2) X.env = pure (some [x, y]) := fun hk =>
      par_ok hk (by rw [G.sc]; exact h4) (by rw [G.sc]; exact h5) h6 h7 h8 h9 (any_star ha hb)
    refine ⟨fun pins s σ H D I q => (ps_par (G.calm hcm) G.nd (by rw [G.n]; exact h1) (by rw [G.n]; exact h2) h3 (by rw [G.sc]; exact h4) (by rw [G.sc]; exact h5)
      (pa_cons (soundE a G.toGood a' ha) (pa_cons (soundE b G.toGood b' hb) pa_nil (star_ok hb [] X.env)) (star_ok ha [b'] X.env)) (k I.ok.kind) (by rfl)).run pins s σ H D I ?_⟩
    obtain ⟨ρ, M, Kd, R, t, kn, kr, kb, kc, kx⟩ := q
    simp only [evS] at t
    refine ⟨ρ, M, _, _, R, t, fun d M1 v H1 e1 R1 r1 t1 => ⟨ρ, M1, _, _, R1, t1, fun d2 M2 v2 H2 e2 R2 r2 t2 => ⟨v, v2, rfl, ?_⟩, fun x M' c dd H' e R' rx q' => kx x ρ M' σ c dd H' (e1.trans e) R' rx q'⟩, fun x M' c dd H' e R' rx q' => kx x ρ M' σ c dd H' e R' rx q'⟩
    exact kn _ M2 _ H2 (e1.trans e2) ⟨(R2.env.set (r1.mono e2)).set r2, R2.mem⟩ t2
  | .setS a b v, X, T, W, Γ, G, e, h => by
    obtain ⟨a', b', p, v', pos, rfl, hh⟩ := inv_setS h
    replace h := hh
    simp only [Bool.and_eq_true, Bool.not_eq_true'] at h
    obtain ⟨⟨⟨h1, h2⟩, h3⟩, h4⟩ := h
    refine PS.imp (ps_asg (soundE v G.toGood v' h4) (pg_sub (soundE a G.toGood a' h2) (soundE b G.toGood b' h3) set_list (sub_asg h3 _ _)) (show swapsWith v' (some (.Subscript a' b' p)) pos.line X.env = pure false from swaps_no h1 _ _ _) (by cases v' <;> rfl) (by rfl)) fun D σ H q => ?_
    obtain ⟨ρ, M, Kd, R, t, kn, kr, kb, kc, kx⟩ := q
    simp only [evS] at t
    refine ⟨ρ, M, _, _, R, t, fun d M1 v H1 e1 R1 r1 t1 => ⟨ρ, M1, _, _, R1, t1, fun d2 M2 v2 H2 e2 R2 r2 t2 => ⟨ρ, M2, _, _, R2, t2, fun d3 M3 v3 H3 e3 R3 r3 t3 => ?_,
      fun x M' c dd H' e R' rx q' => kx x ρ M' σ c dd H' ((e1.trans e2).trans e) R' rx q'⟩, fun x M' c dd H' e R' rx q' => kx x ρ M' σ c dd H' (e1.trans e) R' rx q'⟩, fun x M' c dd H' e R' rx q' => kx x ρ M' σ c dd H' e R' rx q'⟩
    cases d2 <;> cases d3 <;> try (exact t3.elim)
    cases r2; cases r3
    obtain ⟨xs, j, g1, g2, g3⟩ := t3
    obtain ⟨vs, w1, w2⟩ := R3.mem _ _ g1
    have e4 : TX H3 (upd H3 _ (.lst (vs.set j v))) := TX.put w1 (fun _ z => by cases z) (fun _ _ z => by cases z)
    exact ⟨_, vs, _, j, rfl, rfl, w1, by rw [← w2.length]; exact g2, kn _ _ _ _ (((e1.trans e2).trans e3).trans e4) ⟨R3.env.mono e4, R3.mem.putL w1 (w2.set (r1.mono (e2.trans e3)) j)⟩ g3⟩
  | .setF a f v, X, T, W, Γ, G, e, h => by
    obtain ⟨a', f', p, v', pos, rfl, hh⟩ := inv_setF h
    replace h := hh
    simp only [Bool.and_eq_true, Bool.not_eq_true', decide_eq_true_eq] at h
    obtain ⟨⟨⟨rfl, h1⟩, h2⟩, h3⟩ := h
    refine PS.imp (ps_fld (soundE a G.toGood a' h2) (soundE v G.toGood v' h3) (swaps_no h1 _ _ _)) fun D σ H q => ?_
    obtain ⟨ρ, M, Kd, R, t, kn, kr, kb, kc, kx⟩ := q
    simp only [evS] at t
    refine ⟨ρ, M, _, _, R, t, fun d M1 v H1 e1 R1 r1 t1 => ⟨ρ, M1, _, _, R1, t1, fun d2 M2 v2 H2 e2 R2 r2 t2 => ?_,
      fun x M' c dd H' e R' rx q' => kx x ρ M' σ c dd H' (e1.trans e) R' rx q'⟩, fun x M' c dd H' e R' rx q' => kx x ρ M' σ c dd H' e R' rx q'⟩
    cases d2 <;> try (exact t2.elim)
    cases r2
    obtain ⟨C, fs, g1, g2, g3, g4⟩ := t2
    obtain ⟨dx, vfs, w1, w2, w3, w4⟩ := R2.mem _ _ g1
    have e3 : TX H2 (upd H2 _ (.ins C dx (putF f v vfs))) := TX.put w1 (fun _ z => by cases z) (fun _ _ z => by cases z)
    refine ⟨_, C, dx, vfs, rfl, w1, (G.fld _ _ g2).1, (G.fld _ _ g2).2, by omega, kn _ _ _ _ ((e1.trans e2).trans e3) ⟨R2.env.mono e3, fun p o hp => ?_⟩ g4⟩
    exact R2.mem.putI w1 (r1.mono e2) w2 w3 w4 g3 p o hp
  | .setTl ts a, X, T, W, Γ, G, e, h => by
    obtain ⟨es, kk, pt, v, pos, rfl, hh⟩ := inv_setTl h
    replace h := hh
    simp only [Bool.and_eq_true, Bool.not_eq_true'] at h
    obtain ⟨⟨⟨hc, h2⟩, h3⟩, h4⟩ := h
    obtain ⟨st, sl⟩ := each_star h3 X.env
    refine PS.imp (ps_asg (soundE a G.toGood v h4) (pg_or (pg_lst (G.toGood.calm hc) (soundGs G.toGood ts es h3) sl st) (pg_tup (G.toGood.calm hc) (soundGs G.toGood ts es h3) sl st)) (by cases v <;> rfl) (by cases v <;> first | rfl | (simp [isTup] at h2; done)) (by rfl)) fun D σ H q => ?_
    obtain ⟨ρ, M, Kd, R, t, kn, kr, kb, kc, kx⟩ := q
    simp only [evS] at t
    refine ⟨ρ, M, _, _, R, t, fun d M1 v H1 e1 R1 r1 t1 => ?_, fun x M' c dd H' e R' rx q' => kx x ρ M' σ c dd H' e R' rx q'⟩
    cases d <;> try (exact t1.elim)
    case ref =>
      obtain ⟨ds, hm, t1⟩ := t1
      cases r1
      obtain ⟨vs, sq, rs⟩ := R1.mem.sq (.inl hm)
      have hl := (tgsD_ex ts ds ρ _ t1).2 h3
      exact .inl ⟨_, vs, rfl, sq, by rw [← rs.length, hl], ds, ρ, M1, _, rs, R1, t1, fun ρ' σ' R' _ _ q' => kn _ M1 _ H1 e1 R' q'⟩
    case tup ds =>
      obtain ⟨a, xs, rfl, sq, rs⟩ := r1.tup_inv
      have hl := (tgsD_ex ts ds ρ _ t1).2 h3
      exact .inr ⟨a, xs, rfl, sq, by rw [← rs.length, hl], ds, ρ, M1, _, rs, R1, t1, fun ρ' σ' R' _ _ q' => kn _ M1 _ H1 e1 R' q'⟩
  | .set2 tg i a, X, T, W, Γ, G, e, h => by
    obtain ⟨t, x, p, v, pos, rfl, hh⟩ := inv_set2 h
    replace h := hh
    simp only [Bool.and_eq_true, decide_eq_true_eq] at h
    obtain ⟨⟨⟨⟨h1, h2⟩, h3⟩, h4⟩, h5⟩ := h
    obtain ⟨l, f⟩ := G.toGood.loc h4
    refine PS.imp (ps_asg2 (soundE a G.toGood v h5) (soundG G.toGood tg t h2) (pg_name G.nd (by rw [G.n]; exact h3) l f) (asg2 h2 x p _) (by cases t <;> first | (simp [isTup] at h1; done) | (cases v <;> rfl))) fun D σ H q => ?_
    obtain ⟨ρ, M, Kd, R, t, kn, kr, kb, kc, kx⟩ := q
    simp only [evS] at t
    refine ⟨ρ, M, _, _, R, t, fun d M1 v H1 e1 R1 r1 t1 => ⟨d, ρ, M1, _, r1, R1, t1, fun ρ' σ' R' _ _ q' => kn _ M1 _ H1 e1 ⟨R'.env.set r1, R'.mem⟩ q'⟩, fun x M' c dd H' e R' rx q' => kx x ρ M' σ c dd H' e R' rx q'⟩
  | .ret a, X, T, W, Γ, G, e, h => by
    obtain ⟨v, pos, rfl, hh⟩ := inv_ret h
    replace h := hh
    refine PS.imp (ps_ret (soundE a G.toGood v h)) fun D σ H q => ?_
    obtain ⟨ρ, M, Kd, R, t, kn, kr, kb, kc, kx⟩ := q
    simp only [evS] at t
    exact ⟨ρ, M, _, _, R, t, fun d M1 v H1 e1 R1 r1 t1 => kr d M1 v H1 e1 R1.mem r1 t1, fun x M' c dd H' e R' rx q' => kx x ρ M' σ c dd H' e R' rx q'⟩
  | .retN, X, T, W, Γ, G, e, h => by
    obtain ⟨pos, rfl, hh⟩ := inv_retN h
    replace h := hh
    refine PS.imp ps_retN fun D σ H q => ?_
    obtain ⟨ρ, M, Kd, R, t, kn, kr, kb, kc, kx⟩ := q
    exact kr _ _ _ _ (TX.refl H) R.mem .non t
  | .expr a, X, T, W, Γ, G, e, h => by
    obtain ⟨v, pos, rfl, hh⟩ := inv_expr h
    replace h := hh
    simp only [Bool.and_eq_true, Bool.not_eq_true'] at h
    refine PS.imp (ps_expr (soundE a G.toGood v h.2) (swaps_no h.1 _ _ _)) fun D σ H q => ?_
    obtain ⟨ρ, M, Kd, R, t, kn, kr, kb, kc, kx⟩ := q
    simp only [evS] at t
    exact ⟨ρ, M, _, _, R, t, fun d M1 v H1 e1 R1 r1 t1 => kn ρ M1 σ H1 e1 R1 t1, fun x M' c dd H' e R' rx q' => kx x ρ M' σ c dd H' e R' rx q'⟩
  | .ifs c a b, X, T, W, Γ, G, e, h => by
    obtain ⟨c', a', b', pos, rfl, hh⟩ := inv_ifs h
    replace h := hh
    simp only [Bool.and_eq_true] at h
    refine PS.imp (ps_if (soundT c G.toGood c' h.1.1) (soundSs a G a' h.1.2) (soundSs b G b' h.2)) fun D σ H q => ?_
    obtain ⟨ρ, M, Kd, R, t, kn, kr, kb, kc, kx⟩ := q
    simp only [evS] at t
    refine ⟨ρ, M, _, _, R, t, fun k M1 H1 e1 R1 t1 => ?_, fun x M' c dd H' e R' rx q' => kx x ρ M' σ c dd H' e R' rx q'⟩
    cases k with
    | true => exact ⟨ρ, M1, Kd, R1, t1, fun ρ' M' σ' H' e' => kn ρ' M' σ' H' (e1.trans e'), fun d M' v H' e' => kr d M' v H' (e1.trans e'), fun ρ' M' σ' H' e' => kb ρ' M' σ' H' (e1.trans e'), fun ρ' M' σ' H' e' => kc ρ' M' σ' H' (e1.trans e'), fun x ρ' M' σ' c dd H' e' => kx x ρ' M' σ' c dd H' (e1.trans e')⟩
    | false => exact ⟨ρ, M1, Kd, R1, t1, fun ρ' M' σ' H' e' => kn ρ' M' σ' H' (e1.trans e'), fun d M' v H' e' => kr d M' v H' (e1.trans e'), fun ρ' M' σ' H' e' => kb ρ' M' σ' H' (e1.trans e'), fun ρ' M' σ' H' e' => kc ρ' M' σ' H' (e1.trans e'), fun x ρ' M' σ' c dd H' e' => kx x ρ' M' σ' c dd H' (e1.trans e')⟩
  | .whl c b, X, T, W, Γ, G, e, h => by
    obtain ⟨c', b', pos, rfl, hh⟩ := inv_whl h
    replace h := hh
    simp only [Bool.and_eq_true] at h
    refine PS.imp (ps_while G.own (soundT c G.toGood c' h.1) (soundSs b G b' h.2)) fun D σ H q => ?_
    obtain ⟨ρ, M, Kd, R, ⟨n, t⟩, kn, kr, kb, kc, kx⟩ := q
    refine ⟨fun m σ' H' => TX H H' ∧ ∃ ρ' M', Rel X.K ρ' M' σ' H' ∧ whlD (evT Γ c) (evSs Γ b) Kd m ρ' M', ⟨n, TX.refl H, ρ, M, R, t⟩, ?_⟩
    rintro m σ1 H1 ⟨e1, ρ1, M1, R1, t1⟩
    cases m with
    | zero => exact t1.elim
    | succ m =>
      simp only [whlD] at t1
      refine ⟨ρ1, M1, _, _, R1, t1, fun k M2 H2 e2 R2 t2 => ?_, fun x M' c dd H' e R' rx q' => kx x ρ1 M' σ1 c dd H' (e1.trans e) R' rx q'⟩
      cases k with
      | false => exact kn ρ1 M2 σ1 H2 (e1.trans e2) R2 t2
      | true =>
        refine ⟨fun σ' H' => TX H H' ∧ ∃ ρ' M', Rel X.K ρ' M' σ' H' ∧ whlD (evT Γ c) (evSs Γ b) Kd m ρ' M', fun σ' H' q => ⟨m, Nat.lt_succ_self m, q⟩, ρ1, M2, _, R2, t2, ?_⟩
        exact ⟨fun ρ' M' σ' H' e' R' q' => ⟨(e1.trans e2).trans e', ρ', M', R', q'⟩, fun d M' v H' e' => kr d M' v H' ((e1.trans e2).trans e'), fun ρ' M' σ' H' e' => kn ρ' M' σ' H' ((e1.trans e2).trans e'),
          fun ρ' M' σ' H' e' R' q' => ⟨(e1.trans e2).trans e', ρ', M', R', q'⟩, fun x ρ' M' σ' c dd H' e' => kx x ρ' M' σ' c dd H' ((e1.trans e2).trans e')⟩
  | .fo tg it b, X, T, W, Γ, G, e, h => by
    obtain ⟨t, it', b', pos, rfl, hh⟩ := inv_fo h
    replace h := hh
    simp only [Bool.and_eq_true] at h
    refine PS.imp (ps_for G.own (G.calm h.1.1.1) (soundI it G.toGood t it' h.1.2) (soundG G.toGood tg t h.1.1.2) (soundSs b G b' h.2) (iter_ok h.1.2 X.env)) fun D σ H q => ?_
    obtain ⟨ρ, M, Kd, R, t, kn, kr, kb, kc, kx⟩ := q
    simp only [evS] at t
    refine ⟨ρ, M, _, _, R, t, fun items G' M1 J H1 e1 R1 w t1 => ?_, fun x M' c dd H' e R' rx q' => kx x ρ M' σ c dd H' e R' rx q'⟩
    obtain ⟨GH, Y, wk, hG, hY⟩ := w.ex
    refine ⟨fun i m σ' H' => m = items.length - i ∧ i ≤ items.length ∧ TX H1 H' ∧ ∃ ρ' M', Rel X.K ρ' M' σ' H' ∧ forD G' tg (evSs Γ b) Kd (items.drop i) ρ' M', ⟨_, rfl, Nat.zero_le _, TX.refl _, ρ, M1, R1, by rw [List.drop_zero]; exact t1⟩, ?_⟩
    rintro i m σ2 H2 ⟨rfl, hi, e2, ρ2, M2, R2, t2⟩
    by_cases hlt : i < items.length
    · have hd : items.drop i = items[i] :: items.drop (i + 1) := List.drop_eq_getElem_cons hlt
      rw [hd] at t2
      simp only [forD] at t2
      obtain ⟨cg, t2⟩ := t2
      have gh := hG M2 H2 e2 R2.mem cg
      refine .inr ⟨wk.goes i H2 hlt gh, fun σ' H' => TX H1 H' ∧ ∃ ρ' M', Rel X.K ρ' M' σ' H' ∧ forD G' tg (evSs Γ b) Kd (items.drop (i + 1)) ρ' M', fun σ' H' p' => ⟨items.length - (i + 1), by omega, rfl, hlt, p'⟩, fun x H' y => ?_⟩
      obtain ⟨e3, k1, _, rx⟩ := hY i H2 x H' items[i] e2 (by simp [hlt]) (wk.yields i H2 x H' hlt gh y)
      refine ⟨items[i], ρ2, M2, _, rx, ⟨R2.env.mono e3, k1 M2 R2.mem⟩, t2, fun ρ3 σ3 R3 _ _ t3 => ⟨ρ3, M2, _, R3, t3, ?_⟩⟩
      exact ⟨fun ρ' M' σ' H' e' R' q' => ⟨(e2.trans e3).trans e', ρ', M', R', q'⟩, fun d M' v H' e' => kr d M' v H' (((e1.trans e2).trans e3).trans e'), fun ρ' M' σ' H' e' => kn ρ' M' σ' H' (((e1.trans e2).trans e3).trans e'),
          fun ρ' M' σ' H' e' R' q' => ⟨(e2.trans e3).trans e', ρ', M', R', q'⟩, fun x ρ' M' σ' c dd H' e' => kx x ρ' M' σ' c dd H' (((e1.trans e2).trans e3).trans e')⟩
    · have ei : i = items.length := by omega
      subst ei
      rw [List.drop_length] at t2
      simp only [forD] at t2
      exact .inl ⟨wk.stops H2 (hG M2 H2 e2 R2.mem t2.1), kn ρ2 M2 σ2 H2 (e1.trans e2) R2 t2.2⟩
  | .pass, X, T, W, Γ, G, e, h => by
    cases e <;> first
      | (exact absurd h Bool.false_ne_true)
      | (refine PS.imp ps_pass fun D σ H q => ?_
         obtain ⟨ρ, M, Kd, R, t, kn, kr, kb, kc, kx⟩ := q
         exact kn _ _ _ _ (TX.refl H) R t)
      | skip
    rename_i um1 um2
    cases um1 <;> first | (exact absurd h Bool.false_ne_true) | skip
    rename_i um3 um4 um5
    cases um3 <;> first | (exact absurd h Bool.false_ne_true) | skip
    refine PS.imp ps_doc fun D σ H q => ?_
    obtain ⟨ρ, M, Kd, R, t, kn, kr, kb, kc, kx⟩ := q
    exact kn _ _ _ _ (TX.refl H) R t
  | .brk, X, T, W, Γ, G, e, h => by
    obtain ⟨pos, rfl, hh⟩ := inv_brk h
    replace h := hh
    refine PS.imp ps_break fun D σ H q => ?_
    obtain ⟨ρ, M, Kd, R, t, kn, kr, kb, kc, kx⟩ := q
    exact kb _ _ _ _ (TX.refl H) R t
  | .cont, X, T, W, Γ, G, e, h => by
    obtain ⟨pos, rfl, hh⟩ := inv_cont h
    replace h := hh
    refine PS.imp ps_continue fun D σ H q => ?_
    obtain ⟨ρ, M, Kd, R, t, kn, kr, kb, kc, kx⟩ := q
    exact kc _ _ _ _ (TX.refl H) R t
  | .raise g m, X, T, W, Γ, G, e, h => by
    obtain ⟨x, p, vs, pos, pos2, rfl, hh⟩ := inv_raise h
    replace h := hh
    simp only [Bool.and_eq_true, decide_eq_true_eq] at h
    obtain ⟨⟨⟨⟨⟨hcm, hg⟩, hgl⟩, hp⟩, hne⟩, hc⟩ := h
    cases vs with
    | nil => simp at hne
    | cons v vs => exact raise_ok G hcm hg hgl hp hc
  | .raise0 g, X, T, W, Γ, G, e, h => by
    obtain ⟨x, p, pos, pos2, rfl, hh⟩ := inv_raise0 h
    replace h := hh
    simp only [Bool.and_eq_true, decide_eq_true_eq] at h
    obtain ⟨⟨⟨hcm, hg⟩, hgl⟩, hp⟩ := h
    exact raise0_ok G hcm hg hgl hp
  | .trA b i g s2, X, T, W, Γ, G, e, h => by
    obtain ⟨b', x, p, n, s', p2, pos, rfl, hh⟩ := inv_trA h
    replace h := hh
    simp only [Bool.and_eq_true, decide_eq_true_eq] at h
    obtain ⟨⟨⟨⟨⟨⟨⟨⟨hcm, hg⟩, hgl⟩, hp⟩, hn⟩, hl⟩, hne⟩, hb⟩, hs⟩ := h
    obtain ⟨u, nu, hu⟩ := names_of G hg hgl hp
    first
    | skip
      cases s' with
      | nil => simp at hne
      | cons b₀ suite =>
        refine PS.imp (ps_try_as (i := i) (c := u) (tb := fun W' => liftSt X.K W' (evSs Γ b)) (ts := fun a cls d D σ H => ∃ C, cls = .ref C ∧ liftSt X.K W0 (evSs { Γ with exn := some (a, C, d) } s2) D σ H) (Wout := W)
          G.stk G.frm G.nd (by rw [G.n]; exact hn) (by unfold PySem.Env.kindOf; rw [G.sc]; exact hl) nu G.tk
          (fun W' pn xe tk own => soundSs b (G.tr hcm tk own) b' hb)
          (fun a oe cls d pn hz hf => ⟨fun pins s σ H D I q => by
            obtain ⟨C, rfl, q⟩ := q
            exact (soundSs s2 (G.suite hz hf) (b₀ :: suite) hs).run pins s σ H D I q⟩)) fun D σ H q => ?_
        obtain ⟨ρ, M, Kd, R, t, kn, kr, kb, kc, kx⟩ := q
        simp only [evS] at t
        refine ⟨ρ, M, _, R, t, kn, kr, kb, kc, fun x ρ1 M1 σ1 cls dd H1 e1 R1 rx q' => ?_⟩
        obtain ⟨C2, k, e2, hk, hyes, hno⟩ := q'
        have e3 := hu _ e2
        subst e3
        obtain ⟨rfl, rfl⟩ := rx
        refine ⟨k, (G.sub _ _ _ hk).2.2, fun hkt a ha => ⟨x.C, rfl, ρ1.set i (some (.ref a)), M1, _, ⟨R1.env.set (.ref a), R1.mem⟩, hyes hkt a (R1.mem.free ha), ?_, ?_, ?_, ?_, ?_⟩, fun hkf => kx x ρ1 M1 σ1 _ _ H1 e1 R1 ⟨rfl, rfl⟩ (hno hkf)⟩
        · exact fun ρ' M' σ' H' e' R' q' => kn _ M' _ H' (e1.trans e') ⟨R'.env.clr i, R'.mem⟩ q'
        · exact fun d M' v H' e' m' r' q' => kr d M' v H' (e1.trans e') m' r' q'
        · exact fun ρ' M' σ' H' e' R' q' => kb _ M' _ H' (e1.trans e') ⟨R'.env.clr i, R'.mem⟩ q'
        · exact fun ρ' M' σ' H' e' R' q' => kc _ M' _ H' (e1.trans e') ⟨R'.env.clr i, R'.mem⟩ q'
        · exact fun x' ρ' M' σ' cls' dd' H' e' R' rx' q' => q'.elim
  | .trO b g s2, X, T, W, Γ, G, e, h => by
    obtain ⟨b', x, p, s', p2, pos, rfl, hh⟩ := inv_trO h
    replace h := hh
    simp only [Bool.and_eq_true, decide_eq_true_eq] at h
    obtain ⟨⟨⟨⟨⟨⟨hcm, hg⟩, hgl⟩, hp⟩, hne⟩, hb⟩, hs⟩ := h
    obtain ⟨u, nu, hu⟩ := names_of G hg hgl hp
    first
    | skip
      cases s' with
      | nil => simp at hne
      | cons b₀ suite =>
        refine PS.imp (ps_try_only (c := u) (tb := fun W' => liftSt X.K W' (evSs Γ b)) (ts := fun a cls d D σ H => ∃ C, cls = .ref C ∧ liftSt X.K W0 (evSs { Γ with exn := some (a, C, d) } s2) D σ H) (Wout := W)
          G.stk G.frm nu G.tk
          (fun W' pn xe tk own => soundSs b (G.tr hcm tk own) b' hb)
          (fun a oe cls d pn hz hf => ⟨fun pins s σ H D I q => by
            obtain ⟨C, rfl, q⟩ := q
            exact (soundSs s2 (G.suite hz hf) (b₀ :: suite) hs).run pins s σ H D I q⟩)) fun D σ H q => ?_
        obtain ⟨ρ, M, Kd, R, t, kn, kr, kb, kc, kx⟩ := q
        simp only [evS] at t
        refine ⟨ρ, M, _, R, t, kn, kr, kb, kc, fun x ρ1 M1 σ1 cls dd H1 e1 R1 rx q' => ?_⟩
        obtain ⟨C2, k, e2, hk, hyes, hno⟩ := q'
        have e3 := hu _ e2
        subst e3
        obtain ⟨rfl, rfl⟩ := rx
        refine ⟨k, (G.sub _ _ _ hk).2.2, fun hkt a ha => ⟨x.C, rfl, ρ1, M1, _, R1, hyes hkt a (R1.mem.free ha), ?_, ?_, ?_, ?_, ?_⟩, fun hkf => kx x ρ1 M1 σ1 _ _ H1 e1 R1 ⟨rfl, rfl⟩ (hno hkf)⟩
        · exact fun ρ' M' σ' H' e' R' q' => kn _ M' _ H' (e1.trans e') R' q'
        · exact fun d M' v H' e' m' r' q' => kr d M' v H' (e1.trans e') m' r' q'
        · exact fun ρ' M' σ' H' e' R' q' => kb _ M' _ H' (e1.trans e') R' q'
        · exact fun ρ' M' σ' H' e' R' q' => kc _ M' _ H' (e1.trans e') R' q'
        · exact fun x' ρ' M' σ' cls' dd' H' e' R' rx' q' => q'.elim
  | .never, X, T, W, Γ, G, e, h => PS.imp ps_never fun D σ H q => by
      obtain ⟨ρ, M, Kd, R, t, kn, kr, kb, kc, kx⟩ := q
      exact t
theorem soundSs : ∀ (m : Sms) {X : Cx} {T : Tb} {W : WX} {Γ : Gm} (G : GoodS CX X T Γ W lv) (es : List Stmt), chkSs T m es = true → PSs X es (liftSt X.K W (evSs Γ m))
  | .nil, X, T, W, Γ, G, es, h => by
    cases es with
    | cons _ _ => simp [chkSs] at h
    | nil =>
      refine PSs.imp pss_nil fun D σ H q => ?_
      obtain ⟨ρ, M, Kd, R, t, kn, kr, kb, kc, kx⟩ := q
      exact kn _ _ _ _ (TX.refl H) R t
  | .cons m ms, X, T, W, Γ, G, es, h => by
    cases es with
    | nil => simp [chkSs] at h
    | cons e es =>
      simp only [chkSs, Bool.and_eq_true] at h
      refine PSs.imp (pss_cons (soundS m G e h.1) (soundSs ms G es h.2)) fun D σ H q => ?_
      obtain ⟨ρ, M, Kd, R, t, kn, kr, kb, kc, kx⟩ := q
      simp only [evSs] at t
      exact ⟨ρ, M, _, R, t, fun ρ' M' σ' H' e1 R' t1 => ⟨ρ', M', Kd, R', t1, fun ρ' M' σ' H' e' => kn ρ' M' σ' H' (e1.trans e'), fun d M' v H' e' => kr d M' v H' (e1.trans e'), fun ρ' M' σ' H' e' => kb ρ' M' σ' H' (e1.trans e'), fun ρ' M' σ' H' e' => kc ρ' M' σ' H' (e1.trans e'), fun x ρ' M' σ' c dd H' e' => kx x ρ' M' σ' c dd H' (e1.trans e')⟩, kr, kb, kc, kx⟩
end
end
end DL
namespace DL
open PySem PySem.Spec L2
open PyProof.Rows (envOfC)
def GlobOkM (CX : CXT) (P : Program) (w : World) (K : PySem.W.Frag) (mg : Str → Option Value) (base : Heap) (lv : Nat) (x : Str) : Option (Nat × Nat) → GV → Prop
  | some (n, k), .fn n' sp dfl => n' = n ∧ dfl.length = k ∧ ∃ f fd ps, FnOk P w K mg base CX lv f fd ps (liftSp K n sp) ∧ mg x = some (.ref f) ∧ PySem.W.keepIn K (.ref f) = true ∧ ps.length = n ∧
      ∀ j, j ≤ k → ∃ dvs ds, Binds K fd ps ds ∧ Vals dvs ds ∧ ∀ H, Reps K H (dfl.drop (k - j)) dvs
  | none, .val d => ∃ u v, mg x = some u ∧ RelV v u ∧ ∀ H, Rep K H d v
  | none, .cls C => mg x = some (.ref C)
  | none, .err C fs tx => mg x = some (.ref C) ∧ ErrOk CX P w K mg base lv C fs tx
  | none, .cla C i => mg x = some (.ref C) ∧ ClaOk CX P w K mg base lv C i
  | _, _ => False
structure GM (CX : CXT) (P : Program) (w : World) (K : PySem.W.Frag) (mg : Str → Option Value) (base : Heap) (T : Tb) (Γ : Gm) (lv : Nat) : Prop where
  xn : ∀ x ∈ T.xn, mg x = none
  gcd : (T.gcd = true → mg "gcd" = some (.builtin "math.gcd")) ∧ (T.lcm = true → mg "lcm" = some (.builtin "math.lcm"))
  glob : ∀ g x o, T.gn[g]? = some (x, o) → GlobOkM CX P w K mg base lv x o (Γ.gv g)
  fld : ∀ C f, Γ.fld C f → Cls K C ∧ NoAttr K C f
  kwc : ∀ g x nk np ks pat n' sp dfl, T.gn[g]? = some (x, some nk) → Γ.gv g = .fn n' sp dfl → Γ.kwc g np ks = some pat → KwOk CX P w K mg base lv x n' sp np ks pat
  mt : ∀ g C m n sp dfl, (Γ.gv g).insOf = some C → Γ.mt g m = some (n, sp, dfl) → MtOk CX P w K mg base lv C m n sp dfl
  pr : ∀ g C f sp, (Γ.gv g).insOf = some C → Γ.pr g f = some sp → PrOk CX P w K mg base lv C f sp
  isi : ∀ t C b, Γ.isi t C = some b → IsiOk K t C b
  nf : ∀ t C, Γ.nf t C = true → nfX K t C = true
  kwm : ∀ g x np ks pat C i, T.gn[g]? = some (x, none) → Γ.gv g = .cla C i → Γ.kwc g np ks = some pat → KwcOk CX P w K mg base lv C np ks pat i
  xfl : ∀ C f, Γ.xfl C f → XfC K C ∧ PySem.W.findIn K (.ref C) f = some none
  sub : ∀ C C' b, Γ.sub C C' = some b → ExcC K C ∧ PySem.W.kitOne K (.ref C) (.ref C') = some b ∧ PySem.W.exmOne K (.ref C) (.ref C') = some b
theorem GlobOkM.to {CX : CXT} {X : Cx} {lv : Nat} {x : Str} : ∀ {o : Option (Nat × Nat)} {g : GV}, GlobOkM CX X.prog X.w X.K X.mg X.base lv x o g → GlobOk CX X lv x o g
  | some (_, _), .fn _ _ _, h => h
  | none, .val _, h => h
  | none, .cls _, h => h
  | none, .err _ _ _, h => h
  | none, .cla _ _, h => h
  | some (_, _), .val _, h => h.elim
  | some (_, _), .cla _ _, h => h.elim
  | some (_, _), .cls _, h => h.elim
  | some (_, _), .err _ _ _, h => h.elim
  | none, .fn _ _ _, h => h.elim
section
variable {P : Program} {w : World} {K : PySem.W.Frag} {mg : Str → Option Value} {base : Heap} {T : Tb} {Γ : Gm} {lv : Nat}
theorem goodS_of (hcm : T.calm = true) (G : GM (L2.CX P w) P w K mg base T Γ lv) {qual : Str} {scope : Scope} {f : Addr} {cdv : Value} {A : Around} {outer : List PySem.Env} {s : Shared} {H : Hp} {E : XK}
    (hr : Room lv (A.deeper (envOfC qual scope s.heap.objs.size f cdv))) (nd : T.N.Nodup) (hs : scope = T.sc) :
    GoodS (L2.CX P w) (cxOf (L2.CX P w) P w K mg base T.N qual scope f cdv A outer s H E) T Γ (fun cls dd _ H => E cls dd H) lv where
  n := rfl
  nd := nd
  calm := fun _ => rfl
  sc := hs
  room := fun _ => hr
  hu := hr.units
  fn := ⟨fun _ _ => rfl, fun _ _ => rfl⟩
  xn := G.xn
  gcd := G.gcd
  glob := fun g x o h => GlobOkM.to (X := cxOf (L2.CX P w) P w K mg base T.N qual scope f cdv A outer s H E) (G.glob g x o h)
  fld := G.fld
  kwc := G.kwc
  mt := G.mt
  pr := G.pr
  isi := G.isi
  nf := G.nf
  kwm := G.kwm
  xfl := G.xfl
  sub := G.sub
  exn := fun z => absurd z (by rw [hcm]; decide)
  pass := passAt (takes_of rfl rfl rfl rfl)
  cx0 := no_cx
  own := passes_of rfl
  tk := takes_of rfl rfl rfl rfl
  hcx := rfl
  stk := rfl
  frm := rfl
def bodyD (Γ : Gm) (n : Nat) (m : Sms) (ds : List D) (M : Mm) (E : EK) (Q : QD) : Prop :=
  evSs Γ m (ds.map some ++ List.replicate (n - ds.length) none) M { nx := fun _ M' => Q .non M', rt := Q, ex := fun x _ M' => E x M' }
theorem body_pure {X : Cx} {N : List Str} {n : Nat} {sp : DSp} {m : Sms} {vs : List V} {H : Hp} {Q : VK} {E : XK} (hp : ∀ ds M E Q, ds.length = n → sp ds M E Q → bodyD Γ N.length m ds M E Q) (h : liftSp K n sp vs H Q E) :
    liftSt K (fun cls dd _ H => E cls dd H) (evSs Γ m) { nx := fun _ H' => Q .non H', rt := Q } (start N vs) H := by
  obtain ⟨hl, ds, M, Ed, Qd, R, r, t, kq, kx⟩ := h
  have l := r.length
  refine ⟨_, M, _, ⟨RelE.start r, R⟩, hp ds M Ed Qd (by omega) t, ?_, ?_, ?_, ?_, ?_⟩
  · exact fun ρ' M' σ' H' e R' q => kq .non M' .non H' e R'.mem .non q
  · exact fun d M' v H' e R' r' q => kq d M' v H' e R' r' q
  · exact fun ρ' M' σ' H' e R' q => q.elim
  · exact fun ρ' M' σ' H' e R' q => q.elim
  · exact fun x ρ' M' σ' cls dd H' e R' rx q => kx x M' cls dd H' e R'.mem rx q
theorem fnDD {x qual : Str} {params : Arguments} {body : List Stmt} {scope : Scope} {dvs : List V} {f : Addr} {fd : FuncData} {ps : List Str} {n : Nat} {sp : DSp} {m : Sms} (G : GM (L2.CX P w) P w K mg base T Γ lv) (F : FunD K x qual params body scope dvs [] f fd) (S : FnScope T.N ps scope) (hn : ps.length = n) (hs : scope = T.sc)
    (hcm : T.calm = true) (hc : chkSs T m body = true) (hp : ∀ ds M E Q, ds.length = n → sp ds M E Q → bodyD Γ T.N.length m ds M E Q) : FnOk P w K mg base (L2.CX P w) (lv + 1) f fd ps (liftSp K n sp) := by
  refine F.ok S (fun vs H Q E h => h.1.trans hn.symm) fun cdv A outer s H vs Q E hr h => ?_
  exact ⟨_, soundSs m (goodS_of hcm G hr S.nd hs) body hc, body_pure (X := cxOf (L2.CX P w) P w K mg base T.N qual scope f cdv A outer s H E) hp h⟩
end
end DL
namespace DL
open PySem PySem.Spec L2
open PyProof.Rows (Fr)
def xcxOf (CX : CXT) (P : Program) (w : World) (K : PySem.W.Frag) (mg : Str → Option Value) (base : Heap) (N : List Str) (qual : Str) (scope : Scope) (f : Addr) (cd : Value) (cc : Addr) (A : Around) (outer : List PySem.Env) (s : Shared) (H : Hp) (E : XK) : Cx where
  prog := P
  w := w
  K := K
  mg := mg
  base := base
  A := A.deeper (PySem.W.ksEnv qual scope s.heap.objs.size f cd cc)
  N := N
  s_0 := s
  H_0 := H
  env := PySem.W.ksEnv qual scope s.heap.objs.size f cd cc
  outer := outer
  stack := PySem.W.ksEnv qual scope s.heap.objs.size f cd cc :: outer
  ex := []
  calm := true
  fn := fun _ => false
  pn := []
  xe := fun e s' => wpAny (model P w) (A.deeper (PySem.W.ksEnv qual scope s.heap.objs.size f cd cc)) (leaving (PySem.W.ksEnv qual scope s.heap.objs.size f cd cc) e) (fun _ s'' => CX outer H s E e s'') (fun e' s'' => CX outer H s E e' s'') s'
structure XScope (N ps : List Str) (sc : Scope) : Prop where
  kind : sc.kind = .function
  co : sc.isCoroutine = false
  gen : sc.isGenerator = false
  nd : N.Nodup
  pre : N.take ps.length = ps
  par : ∀ x ∈ ps, sc.names.lookup x = some .local
  nocell : ∀ y ∈ sc.names, y.2 ≠ .cell
  free : ∀ y ∈ sc.names, y.2 = .free → y.1 = "__class__"
section
variable {CX : CXT} {P : Program} {w : World} {K : PySem.W.Frag} {mg : Str → Option Value} {base : Heap} {N ps : List Str} {qual : Str} {scope : Scope} {f cc : Addr} {cd : Value} {A : Around} {outer : List PySem.Env} {s : Shared} {H : Hp} {E : XK} {us : List Value} {vs : List V}
theorem inv_startX {clo cco : Value} {ccd : Option Addr} {csl : Array (Option Value)} {D : Addr} (S : XScope N ps scope) (hd : A.handled = none) (e0 : Env0 P w K mg base A outer s H) (hl : vs.length = ps.length) (r : Vals vs us)
    (hcc : K.lookup cc = some ⟨cco, ccd, .cell (some (.ref D)), csl⟩) {h1 : Heap} {tk : Nat} (hns : h1.Ns s.heap.objs.size (fun x => (ps.zip us).reverse.lookup x)) (hk : ∀ b o, s.heap.get? b = some o → h1.get? b = some o) :
    Inv (xcxOf CX P w K mg base N qual scope f cd cc A outer s H E) [] (start N vs) H { s with heap := h1, toks := tk } := by
  have hpl : ps.length ≤ N.length := by have := congrArg List.length S.pre; rw [List.length_take] at this; omega
  have noA : ∀ b : Addr, b ∉ (xcxOf CX P w K mg base N qual scope f cd cc A outer s H E).ex := fun b z => absurd (show b ∈ ([] : List Addr) from z) (by simp)
  have ce : ∀ {y : Str} {c : Addr}, (xcxOf CX P w K mg base N qual scope f cd cc A outer s H E).env.cells.lookup y = some c → y = "__class__" ∧ c = cc := fun {y c} h => by
    have h : List.lookup y [(("__class__" : Str), cc)] = some c := h
    by_cases q : y = ("__class__" : Str)
    · subst q
      simp [List.lookup] at h
      exact ⟨rfl, h.symm⟩
    · simp [List.lookup, beq_eq_false_iff_ne.mpr q] at h
  have bcc := e0.bs _ _ (e0.mod.kin _ _ hcc)
  refine ⟨⟨e0.mod, S.kind, rfl, rfl, Nat.le_refl _, fun y z c h1 h2 => ?_, fun y hy => ?_, fun y c h _ => ?_, fun _ => hd, Around.frames_deeper e0.frames, .inr ⟨rfl, rfl⟩, fun b z => absurd z (noA b), e0.bs, e0.bsz, fun b _ _ => noA b, fun b z => absurd z (noA b), e0.funs, e0.frf⟩,
    rfl, e0.bare, Un.kept hk, ⟨_, hns, fun i y v h1 h2 h3 => ?_⟩, fun y c h => ?_, e0.hok.fresh (Nat.le_refl _), fun y c h => ?_, fun p hp => absurd (show p ∈ ([] : List (Addr × Obj)) from hp) (by simp), e0.hok.kept hk, ?_⟩
  · rw [(ce h1).1, (ce h2).1]
  · have hy : scope.names.lookup y = some .cell ∨ scope.names.lookup y = some .free := hy
    rcases hy with hy | hy
    · exact absurd rfl (S.nocell _ (PySem.mem_of_lookup hy))
    · have e := S.free _ (PySem.mem_of_lookup hy) rfl
      have e : y = "__class__" := e
      subst e
      exact ⟨cc, by show List.lookup ("__class__" : Str) [(("__class__" : Str), cc)] = some cc; simp [List.lookup]⟩
  · exact absurd h (by show false ≠ true; decide)
  · have hi : i < vs.length := by
      unfold L2.start at h2
      by_cases hi : i < vs.length
      · exact hi
      · rw [List.getElem?_append_right (by simpa using hi)] at h2
        rw [List.getElem?_replicate] at h2
        split at h2 <;> cases h2
    have ha : vs[i]? = some v := by
      unfold L2.start at h2
      rw [List.getElem?_append_left (by simpa using hi), List.getElem?_map] at h2
      cases e : vs[i]? with
      | none => rw [e] at h2; cases h2
      | some a => rw [e] at h2; cases h2; rfl
    obtain ⟨u, hu, rv⟩ := r.get ha
    have hp : ps[i]? = some y := by
      rw [← S.pre, List.getElem?_take_of_lt (by omega)]; exact h1
    have ndP : ps.Nodup := by rw [← S.pre]; exact S.nd.sublist (List.take_sublist _ _)
    exact ⟨u, rv, .inl ⟨S.par y (List.mem_of_getElem? hp), zip_rev ndP hp hu⟩⟩
  · obtain ⟨rfl, rfl⟩ := ce h
    exact ⟨_, _, hk _ _ bcc.1, rfl⟩
  · obtain ⟨rfl, rfl⟩ := ce h
    exact bcc.2
  · unfold L2.start
    show _ = N.length
    rw [List.length_append, List.length_map, List.length_replicate]
    omega
theorem fn_ofX {clo cco : Value} {ccd : Option Addr} {csl : Array (Option Value)} {D : Addr} {k : Nat} {name : Str} {params : Arguments} {body : List Stmt} {dV kV doc pm ct oc : Value} {an od : Option Addr} {osl : Array (Option Value)} {sp : Sp}
    (lk : K.lookup f = some ⟨oc, od, .func (PySem.W.ksFn name qual params body scope dV kV doc pm an cd ct cc), osl⟩) (hcd : PySem.W.codeIn K cd qual = true) (hcc : K.lookup cc = some ⟨cco, ccd, .cell (some (.ref D)), csl⟩) (S : XScope N ps scope)
    (len : ∀ vs H Q E, sp vs H Q E → vs.length = ps.length)
    (hbody : ∀ (A : Around) (outer : List PySem.Env) (s s1 : Shared) (H : Hp) (vs : List V) (Q : VK) (E : XK), Room k (A.deeper (PySem.W.ksEnv qual scope s.heap.objs.size f cd cc)) → sp vs H Q E → Inv (xcxOf CX P w K mg base N qual scope f cd cc A outer s H E) [] (start N vs) H s1 →
      PySem.wpAt (model P w) (A.deeper (PySem.W.ksEnv qual scope s.heap.objs.size f cd cc)) (.func body (PySem.W.ksEnv qual scope s.heap.objs.size f cd cc)) (execs body (PySem.W.ksEnv qual scope s.heap.objs.size f cd cc))
        (SP (xcxOf CX P w K mg base N qual scope f cd cc A outer s H E) [] { nx := fun _ H' => Q .non H', rt := Q }) (xcxOf CX P w K mg base N qual scope f cd cc A outer s H E).xe s1) :
    FnOk P w K mg base CX (k + 1) f (PySem.W.ksFn name qual params body scope dV kV doc pm an cd ct cc) ps sp := by
  refine ⟨len, fun A outer s H args us vs Q E hr e0 hb r hsp => ?_⟩
  have hl := len _ _ _ _ hsp
  have KX : K.In s.heap := e0.mod.kin.keeps fun b o e => (e0.bs b o e).1
  have lim : s.heap.NoLimit := e0.mod.nolimit.keeps fun b o e => (e0.bs b o e).1
  refine PySem.ks_codeAny_call_defAt (fd := PySem.W.ksFn name qual params body scope dV kV doc pm an cd ct cc) (body := body) (binds := ps.zip us) hr.depth (KX _ _ lk) rfl lim (PySem.W.codeRec_of KX hcd) rfl hb S.nocell (fun y hy => S.par _ (List.of_mem_zip hy).1) (fun h1 hns hk => ?_) S.co S.gen S.kind
  have I : Inv (xcxOf CX P w K mg base N qual scope f cd cc A outer s H E) [] (start N vs) H { s with heap := h1, toks := s.toks + (ps.zip us).length } := inv_startX (clo := clo) S hr.hd e0 hl r hcc hns hk
  refine PySem.ks_wpAt_mono (hbody A outer s _ H vs Q E (hr.deeper _) hsp I) (fun fl s' hs => ?_) fun e s' hs => hs
  have fin : ∀ {σ' : St} {H' : Hp} {v : V} {u : Value}, Inv (xcxOf CX P w K mg base N qual scope f cd cc A outer s H E) [] σ' H' s' → RelV v u → Q v H' → CE outer P w H s Q u s' :=
    fun {σ' H' v u} J rv q => ⟨v, H', J.os, J.bare, J.base, J.hok, rv, q⟩
  cases fl with
  | ret u =>
    obtain ⟨v, σ', H', J, rv, q⟩ := hs
    exact fin J rv q
  | next =>
    obtain ⟨σ', H', J, q⟩ := hs
    exact fin (v := V.non) (u := Value.none) J rfl q
  | brk =>
    obtain ⟨_, _, _, q⟩ := hs
    exact False.elim q
  | cont =>
    obtain ⟨_, _, _, q⟩ := hs
    exact False.elim q
end
end DL
namespace DL
open PySem PySem.Spec L2
open PyProof.Rows (Fr)
section
open PySem.W PySem.Calls PyProof.Rows
variable {prog : Program} {w : World} {A : Around} {E : Value → Shared → Prop} {h : Heap} {g : Array GenState} {d : Drawn} {t : Nat} {os : OsState}
variable {nm q : Str} {C N : Addr} {bs bm : List Value} {hdct : Bool} {sn : List Str} {sub : List Value} {ab : Bool} {col : Option Bool} {dd : Option Addr} {k0 k1 k2 k3 k5 : Option Value}
theorem call_bwV {u e t0 : Addr} {rest : List Value} {Q : Value → Shared → Prop}
    (hC : h.get? C = some (excClassObj nm q C N bs bm hdct sn sub ab col dd k0 k1 k2 k3 k5 "ValueError.__new__")) (he : h.get? e = some (HandSPX.excO C t0)) (hu : h.get? u = some (kxs_mw "ValueError.__init__" e)) (hrest : rest.length ≤ sizeLine)
    (hq : ∀ h' t1, (∀ b o, b ≠ e → h.get? b = some o → h'.get? b = some o) → h'.get? e = some (HandSPX.excO C t1) → Q .none ⟨h', g, d, t, os⟩) :
    wpAny (model prog w) A (call (.ref u) rest) Q E ⟨h, g, d, t, os⟩ := by
  refine wpAny_call (codeAny_of_tree ?_)
  show wpAny _ A.in1 (callAny (.ref u) ⟨rest, []⟩) _ _ _
  simp only [callAny]
  refine wpAny_bind (wpAny_load hu ?_)
  simp only [kxs_mw, show (Value.type "method-wrapper" == Value.type "method" || Value.type "method-wrapper" == Value.type "builtin_function_or_method" || Value.type "method-wrapper" == Value.type "method-wrapper") = true by decide, if_true]
  refine W.KFB.if_so (by decide) ?_
  refine wpAny_bind (ESX.check_bound F.excBase_ValueError hC he rfl ?_)
  refine wpAny_bind (wpAny_pure (wpAny_pure ?_))
  refine ⟨Code.quiet_builtin _ (by decide +kernel), codeAny_builtin F.excBase_ValueError.initEntry ?_⟩
  rw [Around.under_plainId F.excBase_ValueError.init.plain _]
  wp_walk
  refine hq _ h.objs.size (fun b o hb ho => ?_) ?_
  · rw [Heap.get?_update_other _ _ (Ne.symm hb)]
    exact Heap.get?_push_of_some _ ho
  · rw [Heap.get?_update_self _ (Heap.get?_push_of_some _ he) rfl]
    rfl
end
structure SupT (P : Program) (K : PySem.W.Frag) (mg : Str → Option Value) (scope : Scope) (f cc : Addr) (cd : Value) (C : Addr) : Prop where
  fn : ∃ oc od fd osl ar, K.lookup f = some ⟨oc, od, .func fd, osl⟩ ∧ (fd.params.posonlyargs ++ fd.params.args).head? = some ar ∧ ar.arg = "self"
  code : ∃ cda ccl cdd vs ccs file tf, cd = .ref cda ∧ K.lookup cda = some ⟨ccl, cdd, .fields vs, ccs⟩ ∧ vs[2]? = some (.str file tf) ∧ ((P.main.file : Str) == file) = true
  cell : ∃ cl cld csl, K.lookup cc = some ⟨cl, cld, .cell (some (.ref C)), csl⟩
  cls : OexC K C
  self : PySem.W.mroIn K C (.ref C) = some true
  sup : mg "super" = none
  top : (P.main.scope.names.lookup ("super" : Str)).isSome = false
  ns : scope.names.lookup ("super" : Str) = some .globalImplicit
  nc : scope.names.lookup ("__class__" : Str) = some .free
  nl : scope.names.lookup ("self" : Str) = some .local
  any : PySem.W.nsIn K cStatics "thirdparty.any" = some none
  along : PySem.W.ks_superIn K C C "__init__" = some (some (.builtin "ValueError.__init__"))
  isv : PySem.W.subIn K (.ref C) (.type "ValueError") = some true
theorem boot_super : bootBuiltins "super" = some (.type "super") := by kernel_rfl
section
variable {CX : CXT} {P : Program} {w : World} {K : PySem.W.Frag} {mg : Str → Option Value} {base : Heap} {N : List Str} {qual : Str} {scope : Scope} {f cc : Addr} {cd : Value} {A : Around} {outer : List PySem.Env} {s0 : Shared} {H0 : Hp} {E : XK} {body : List Stmt}
theorem sup_at {C a : Addr} {pins : List (Addr × Obj)} {σ : St} {H : Hp} {s : Shared} {D : Ends} {e : Expr} {ta : TA} {p0 p1 p2 p3 p4 : Pos} (T : SupT P K mg scope f cc cd C) (hN : N[0]? = some ("self" : Str))
    (I : Inv (xcxOf CX P w K mg base N qual scope f cd cc A outer s0 H0 E) pins σ H s) (hs : σ[0]? = some (some (.ref a))) (ea : H a = some (exo a C none)) (ha : PA (xcxOf CX P w K mg base N qual scope f cd cc A outer s0 H0 E) [e] ta)
    (ht : ta σ H fun vs H1 => vs.length ≤ 1000 ∧ H1 a = some (exo a C none) ∧ D.nx σ H1)
    (hst : starEach (e :: []) (PySem.W.ksEnv qual scope s0.heap.objs.size f cd cc) = (false, eval e (PySem.W.ksEnv qual scope s0.heap.objs.size f cd cc)) :: starEach [] (PySem.W.ksEnv qual scope s0.heap.objs.size f cd cc))
    (hcl : ∃ pl : Sem Bool, eval (.Call (.Attribute (.Call (.Name "super" p0) [] [] p1) "__init__" p2) [e] [] p3) (PySem.W.ksEnv qual scope s0.heap.objs.size f cd cc) = (do
      let ov ← attributeBase (.Call (.Name "super" p0) [] [] p1) "__init__" (PySem.W.ksEnv qual scope s0.heap.objs.size f cd cc) (eval (.Call (.Name "super" p0) [] [] p1) (PySem.W.ksEnv qual scope s0.heap.objs.size f cd cc))
      standAt p2.atName
      let (fv, first) ← holding [ov] (getMethod ov "__init__" pl)
      callWith p3 fv first (backTo p3 (starEach [e] (PySem.W.ksEnv qual scope s0.heap.objs.size f cd cc))) [])) :
    PySem.wpAt (model P w) (A.deeper (PySem.W.ksEnv qual scope s0.heap.objs.size f cd cc)) (.func body (PySem.W.ksEnv qual scope s0.heap.objs.size f cd cc))
      (exec (.Expr (.Call (.Attribute (.Call (.Name "super" p0) [] [] p1) "__init__" p2) [e] [] p3) p4) (PySem.W.ksEnv qual scope s0.heap.objs.size f cd cc)) (SP (xcxOf CX P w K mg base N qual scope f cd cc A outer s0 H0 E) pins D) (xcxOf CX P w K mg base N qual scope f cd cc A outer s0 H0 E).xe s := by
  obtain ⟨oc, od, fd, osl, ar, lf, hpar, har⟩ := T.fn
  obtain ⟨cda, ccl, cdd, cvs, ccs, file, tf, rfl, lcd, hvs, hfile⟩ := T.code
  obtain ⟨cl, cld, csl, lcc⟩ := T.cell
  obtain ⟨nm, q, Nc, bs, bm, sn, sub, ab, col, dd, k0, k1, k2, k3, k5, hC, hbm⟩ := T.cls.cls
  have hcd : PySem.W.clsIn K C = some { name := nm, bases := bs, mro := .ref C :: bm, ns := Nc, qualname := q, hasDict := true, slotNames := sn, subclasses := sub, abstract := ab, collection := col, hasDel := false } := by unfold PySem.W.clsIn; rw [hC] <;> rfl
  obtain ⟨pl, hcl⟩ := hcl
  have KX := I.kIn
  obtain ⟨mb, b1, b2⟩ := I.mod.blt
  obtain ⟨m, hns, hlk⟩ := id I.loc
  obtain ⟨u0, ru0, lk0⟩ := hlk 0 "self" (.ref a) hN hs (.inl T.nl)
  have hu0 : u0 = Value.ref a := ru0
  subst hu0
  have hm0 : m "self" = some (.ref a) := by
    rcases lk0 with ⟨_, z⟩ | ⟨z, _⟩
    · exact z
    · have z : scope.names.lookup ("self" : Str) = some .cell ∨ scope.names.lookup ("self" : Str) = some .free := z
      rw [T.nl] at z
      rcases z with z | z <;> cases z
  obtain ⟨t1, ho⟩ := exo_at I.hok ea
  have hac : ∀ c, ({ cls := .ref C, dict := none, data := .fields #[.ref t1, .none, .none, .none, .bool false, .none] } : Obj).data ≠ .cls c := fun c z => by cases z
  refine PySem.ks_wpAt_Expr_any (PySem.ks_wpAt_MethodCall (pl := pl) ?_ hcl) ?_ ?_
  · refine PySem.ks_wpAt_super_base (vs := cvs) (file := file) (tf := tf) (env := PySem.W.ksEnv qual scope s0.heap.objs.size f (.ref cda) cc) T.ns T.nc (by decide) rfl (KX _ _ lf) rfl hpar rfl (KX _ _ lcd) rfl hvs hfile T.top ?_
    refine PySem.W.ks_loadName_global I.ok.kind T.ns (Calls.loadGlobal_builtin (env := PySem.W.ksEnv qual scope s0.heap.objs.size f (.ref cda) cc) (I.mod.glob.keeps I.bk) T.sup (b1.keeps I.bk) ((b2 "super" (by decide)).trans boot_super) ⟨rfl, ?_⟩)
    refine wpAny_loadName_free I.ok.kind T.nc (by show List.lookup ("__class__" : Str) [(("__class__" : Str), cc)] = some cc; simp [List.lookup]) ⟨_, KX _ _ lcc, rfl⟩ ?_
    rw [har]
    refine wpAny_loadName_local I.ok.kind T.nl hns hm0 ?_
    refine PySem.ks_wpAny_isType_cls (KX _ _ hC) rfl ⟨rfl, ?_⟩
    obtain ⟨hp, g, d, tk, os⟩ := s
    refine PySem.ks_wpAny_call_super (KX _ _ hC) rfl ho rfl hac (PySem.W.looks_mroIn KX T.self) (fun h1 hso k1 => ?_)
    have I1 := I.kept (t' := tk) k1
    have KX1 := I1.kIn
    have ho1 := k1 _ _ ho
    have J1 : PySem.W.InstAt h1 a { cls := .ref C, dict := none, data := .fields #[.ref t1, .none, .none, .none, .bool false, .none] } C none := ⟨ho1, rfl, rfl, trivial⟩
    have hne : a ≠ C := PySem.W.ks_ne KX1 J1 hcd
    have hal := T.along
    unfold PySem.W.ks_superIn at hal
    rw [hcd] at hal
    refine PySem.W.kxs_getMethod PySem.W.kxs_ValueError hso (PySem.W.looks_opaque KX1 T.any) (l₀ := .ref C :: bm) ((PySem.W.looks_clsIn KX1 hcd).andThen .now) rfl KX1 hal (J1.type.andThen (PySem.W.looks_subIn KX1 T.isv)) hne (by decide) ?_
    have k2 : ∀ b o, h1.get? b = some o → (h1.push (PySem.W.kxs_mw "ValueError.__init__" a)).get? b = some o := fun b o z => Heap.get?_push_of_some _ z
    have hu : (h1.push (PySem.W.kxs_mw "ValueError.__init__" a)).get? h1.objs.size = some (PySem.W.kxs_mw "ValueError.__init__" a) := Heap.get?_push_at rfl rfl
    have I2 := I1.kept (t' := tk + 1) k2
    have I3 : Inv (xcxOf CX P w K mg base N qual scope f (.ref cda) cc A outer s0 H0 E) (pins ++ [(h1.objs.size, PySem.W.kxs_mw "ValueError.__init__" a)]) σ H ⟨h1.push (PySem.W.kxs_mw "ValueError.__init__" a), g, d, tk + 1, os⟩ := I2.pins_of fun p hp => by
      rcases List.mem_append.mp hp with hp | hp
      · exact I2.pin p (List.mem_append_right _ hp)
      · have e : p = (h1.objs.size, PySem.W.kxs_mw "ValueError.__init__" a) := by simpa using hp
        subst e
        exact ⟨hu, I1.hok.fresh (Nat.le_refl _), fun z => absurd I1.lt (by show ¬ _ < h1.objs.size; rw [show h1.objs.size = _ from z]; exact Nat.lt_irrefl _), I1.nofs (Nat.le_refl _), fun v z => by cases z⟩
    have ap := ha.run p3 _ _ σ H _ I3 ht
    rw [show starEach [e] (xcxOf CX P w K mg base N qual scope f (.ref cda) cc A outer s0 H0 E).env = _ from hst] at ap
    rw [hst]
    refine PySem.W.kxs_callWith (i := "ValueError.__init__") (x := a) (by rfl) (Calls.evalArgs_plain (wpAny_mono ap (fun us s2 hh => ?_) fun _ _ z => z))
    obtain ⟨vs, H1, J2, rv, hlen, ea2, hnx⟩ := hh
    have hpu := (J2.pin (h1.objs.size, PySem.W.kxs_mw "ValueError.__init__" a) (List.mem_append_right _ (List.mem_append_right _ List.mem_cons_self))).1
    refine ⟨hpu, ?_⟩
    obtain ⟨t2, ho2⟩ := exo_at J2.hok ea2
    have KX2 := J2.kIn
    obtain ⟨h2, g2, d2, tk2, os2⟩ := s2
    have hlen' : us.length ≤ sizeLine := by
      rw [← Paired.length rv, sizeLine_eq]
      omega
    refine call_bwV (KX2 _ _ hC) ho2 hpu hlen' fun h3 t3 k3 hx3 => ?_
    have J3 := J2.write (t' := tk2) (x := a) (e := a) (o := exo a C none) (by rw [ea2]; exact True.intro) (.inl rfl) k3 ⟨_, hx3⟩ (exo_ok hx3)
    have eu : upd H1 a (exo a C none) = H1 := by
      funext b
      by_cases hb : b = a
      · rw [hb, upd_same, ea2]
      · rw [upd_ne hb]
    rw [eu] at J3
    exact ⟨σ, H1, J3.unpinned, hnx⟩
  · simp [interactive, show scope.kind = .function from I.ok.kind]
  · rfl
end
end DL
namespace DL
open PySem PySem.Spec L2
theorem cf_of {o e : Expr} {nm : Str} {p2 p3 : Pos} (env : PySem.Env) (hl : (p2.endLine == p3.line) = true) (hs : starEach [e] env = [(false, eval e env)]) : ∃ pl : Sem Bool, eval (.Call (.Attribute o nm p2) [e] [] p3) env = (do
      let ov ← attributeBase o nm env (eval o env)
      standAt p2.atName
      let (fv, first) ← holding [ov] (getMethod ov nm pl)
      callWith p3 fv first (backTo p3 (starEach [e] env)) []) := by
  have h1 : eval (.Call (.Attribute o nm p2) [e] [] p3) env = (do
      let ov ← attributeBase o nm env (eval o env)
      standAt p2.atName
      methodCall o nm p2 p3 env ov ([e].length + ([] : List Keyword).length) (backTo p3 (starEach [e] env)) (backToKw p3 (keywordEach [] env))) := by
    first | rfl | simp only [eval]
  have hf : methodCallForm ([e].length + ([] : List Keyword).length) (backTo p3 (starEach [e] env)) (backToKw p3 (keywordEach [] env)) = true := by
    rw [hs]; rfl
  refine ⟨(do return (← importBound o env).getD true), ?_⟩
  rw [h1]
  unfold methodCall calleeOf methodCallPos
  rw [hf]
  simp only [Bool.not_true, Bool.false_or, hl, if_true, pure_bind]
  rfl
section
variable {X : Cx}
def TxOk (tx : List Nat) (σ : St) : Prop := ∀ i ∈ tx, ∃ v, σ[i + 1]? = some (some v) ∧ TxtV v
theorem part_ok {N : List Str} {sc : Scope} {tx : List Nat} (hN : X.N = N) (hs : X.env.scope = sc) {e : Expr} (h : chkPart N sc tx e = true) (nd : N.Nodup) :
    ∃ te : TE, PE X e te ∧ ∀ σ H (R : V → Hp → Prop), TxOk tx σ → (∀ y : Str, y.length ≤ 1921 → R (.str y) H) → te σ H R := by
  cases e <;> try (simp [chkPart] at h; done)
  case Constant c k p =>
    cases c <;> try (simp [chkPart] at h; done)
    rename_i y
    simp only [chkPart, decide_eq_true_eq] at h
    exact ⟨_, pe_str, fun σ H R _ k => k y (by omega)⟩
  case FormattedValue x c sp p =>
    cases x <;> try (simp [chkPart] at h; done)
    cases sp <;> try (simp [chkPart] at h; done)
    rename_i x px
    simp only [chkPart, Bool.and_eq_true, decide_eq_true_eq] at h
    obtain ⟨⟨⟨rfl, hx⟩, hl⟩, hp⟩ := h
    obtain ⟨i, hi, hx⟩ := List.any_eq_true.mp hx
    have hx : N[i + 1]? = some x := by simpa using hx
    obtain ⟨p1, p2, _⟩ := plainN_ok hp
    refine ⟨_, pe_fmt (pe_var (i := i + 1) (by rw [hN]; exact hx) (.inl (by rw [hs]; exact hl)) p1 p2), fun σ H R ht k => ?_⟩
    obtain ⟨v, hv, tv⟩ := ht i hi
    refine ⟨v, hv, ?_⟩
    cases v <;> try (exact tv.elim)
    · rename_i j
      exact .inr ⟨j, rfl, tv, k _ (PyProof.Rows.int_text_len_1921 tv)⟩
    · rename_i y
      have ty : y.length ≤ 1000 := tv
      exact .inl ⟨y, rfl, by rw [sizeLine_eq]; omega, k y (by omega)⟩
theorem parts_ok {N : List Str} {sc : Scope} {tx : List Nat} (hN : X.N = N) (hs : X.env.scope = sc) (nd : N.Nodup) : ∀ {es : List Expr}, es.all (chkPart N sc tx) = true →
    ∃ ts, PJ X es ts ∧ ∀ σ H, TxOk tx σ → ∀ acc Q, acc.length + 1921 * es.length ≤ sizeLine → (∀ out, Q out H) → tJs ts acc σ H Q
  | [], _ => ⟨[], .nil, fun _ _ _ _ _ _ k => k _⟩
  | e :: es, h => by
    simp only [List.all_cons, Bool.and_eq_true] at h
    obtain ⟨te, he, k1⟩ := part_ok hN hs h.1 nd
    obtain ⟨ts, hes, k2⟩ := parts_ok hN hs nd h.2
    refine ⟨te :: ts, .cons he hes, fun σ H ht acc Q hl k => k1 σ H _ ht fun y hy => ⟨y, rfl, ?_, ?_⟩⟩
    · rw [PySem.Str.length_append]; simp only [List.length_cons] at hl; omega
    · refine k2 σ H ht _ Q ?_ k
      rw [PySem.Str.length_append]; simp only [List.length_cons] at hl; omega
theorem tx_ok {N : List Str} {sc : Scope} {tx : List Nat} (hN : X.N = N) (hs : X.env.scope = sc) (nd : N.Nodup) {e : Expr} (h : chkTx N sc tx e = true) :
    ∃ ta : TA, PA X [e] ta ∧ ∀ σ H Q, TxOk tx σ → (∀ out, Q [V.str out] H) → ta σ H Q := by
  cases e <;> try (simp [chkTx] at h; done)
  case Constant c k p =>
    cases c <;> try (simp [chkTx] at h; done)
    exact ⟨_, pa_cons pe_str pa_nil, fun σ H Q _ k => k _⟩
  case JoinedStr es p =>
    match es, h with
    | v1 :: v2 :: rest, h =>
      simp only [chkTx, Bool.and_eq_true, decide_eq_true_eq] at h
      obtain ⟨ts, hj, k⟩ := parts_ok hN hs nd h.2
      refine ⟨_, pa_cons (pe_joined hj) pa_nil, fun σ H Q ht kq => k σ H ht Str.empty _ ?_ fun out => kq out⟩
      have e0 : Str.empty.length = 0 := rfl
      rw [e0, sizeLine_eq]
      simp only [List.length_cons]
      omega
    | [], h => simp [chkTx] at h
    | [_], h => simp [chkTx] at h
theorem more_ok {N : List Str} {sc : Scope} {K : PySem.W.Frag} {C : Addr} (hN : X.N = N) (hs : X.env.scope = sc) (hK : X.K = K) (T : OexC K C) (h0 : N[0]? = some ("self" : Str)) (hl : sc.names.lookup ("self" : Str) = some .local) : ∀ {fs : List Str} {ss : List Stmt} {ks : List Nat}, chkFs sc fs ss = true →
    (∀ f ∈ fs, PySem.W.findIn K (.ref C) f = some none) → ks.length = fs.length → (∀ (j : Nat) f, fs[j]? = some f → ∃ k, ks[j]? = some k ∧ N[k]? = some f) →
    ∃ t : TS, PSs X ss t ∧ ∀ (σ : St) H D a dx (don : List (Str × V)) (ws : List V), σ[0]? = some (some (.ref a)) → ws.length = fs.length → (∀ (j : Nat) (k : Nat), ks[j]? = some k → ∃ v, ws[j]? = some v ∧ σ[k]? = some (some v)) → H a = some (exo a C (some dx)) → H dx = some (exd dx don) → dx ≠ a → don.length + fs.length ≤ 900 →
      (∀ H', H' a = some (exo a C (some dx)) → H' dx = some (exd dx ((fs.zip ws).reverse ++ don)) → (∀ b, b ≠ a → b ≠ dx → H' b = H b) → D.nx σ H') → t D σ H
  | [], [], ks, _, _, _, _ => ⟨_, pss_nil, fun σ H D a dx don ws _ hw _ ha hd _ _ k => k H ha (by simpa using hd) fun _ _ _ => rfl⟩
  | [], _ :: _, _, h, _, _, _ => by simp [chkFs] at h
  | f :: fs, [], _, h, _, _, _ => by simp [chkFs] at h
  | f :: fs, s :: ss, ks, h, hno, hkl, hks => by
    cases s <;> try (simp [chkFs] at h; done)
    rename_i tg v pos
    cases tg <;> first | (exact absurd h Bool.false_ne_true) | skip
    rename_i um1 um2
    cases um1 <;> first | (exact absurd h Bool.false_ne_true) | skip
    rename_i um3 f' fp
    cases um3 <;> first | (exact absurd h Bool.false_ne_true) | skip
    rename_i s sp
    cases um2 <;> first | (exact absurd h Bool.false_ne_true) | skip
    cases v <;> first | (exact absurd h Bool.false_ne_true) | skip
    rename_i x xp
    simp only [chkFs, Bool.and_eq_true, decide_eq_true_eq] at h
    obtain ⟨⟨⟨⟨⟨rfl, rfl⟩, rfl⟩, hx⟩, hp⟩, hr⟩ := h
    obtain ⟨p1, p2, _⟩ := plainN_ok hp
    cases ks with
    | nil => simp at hkl
    | cons k0 ks =>
      obtain ⟨k0', e0, hk0⟩ := hks 0 x rfl
      simp at e0
      subst e0
      obtain ⟨t, ht, kt⟩ := more_ok hN hs hK T h0 hl hr (fun f hf => hno f (List.mem_cons_of_mem _ hf)) (by simpa using hkl) (fun j f hj => by
        obtain ⟨k, a, b⟩ := hks (j + 1) f (by simpa using hj)
        exact ⟨k, by simpa using a, b⟩)
      refine ⟨_, pss_cons (ps_ost (pe_var (i := 0) (by rw [hN]; exact h0) (.inl (by rw [hs]; exact hl)) (by decide) (by decide)) (pe_var (i := k0) (by rw [hN]; exact hk0) (.inl (by rw [hs]; exact hx)) p1 p2) (by rfl)) ht, fun σ H D a dx don ws hσ hw hks' ha hd hda hlen k => ?_⟩
      obtain ⟨v, hv, hσv⟩ := hks' 0 k0 rfl
      cases ws with
      | nil => simp at hw
      | cons w ws =>
        simp at hv
        subst hv
        refine ⟨w, hσv, .ref a, hσ, a, C, rfl, by rw [hK]; exact T, by rw [hK]; exact hno x List.mem_cons_self, .inr ⟨dx, don, ha, hd, by simp only [List.length_cons] at hlen; omega, ?_⟩⟩
        refine kt σ _ D a dx ((x, w) :: don) ws hσ (by simpa using hw) (fun j k hj => ?_) (by rw [upd_ne (Ne.symm hda)]; exact ha) upd_same hda (by simp only [List.length_cons] at hlen ⊢; omega) fun H' h1 h2 h3 => k H' h1 ?_ ?_
        · obtain ⟨v, a1, a2⟩ := hks' (j + 1) k (by simpa using hj)
          exact ⟨v, by simpa using a1, a2⟩
        · rw [h2]; simp [List.zip_cons_cons, List.reverse_cons, List.append_assoc]
        · intro b hb hb2
          rw [h3 b hb hb2, upd_ne hb2]
theorem fields_ok {N : List Str} {sc : Scope} {K : PySem.W.Frag} {C : Addr} (hN : X.N = N) (hs : X.env.scope = sc) (hK : X.K = K) (T : OexC K C) (h0 : N[0]? = some ("self" : Str)) (hl : sc.names.lookup ("self" : Str) = some .local) {fs : List Str} {ss : List Stmt} (h : chkFs sc fs ss = true)
    (hno : ∀ f ∈ fs, PySem.W.findIn K (.ref C) f = some none) (hN2 : N = ("self" : Str) :: fs) (hfew : fs.length ≤ 9) :
    ∃ t : TS, PSs X ss t ∧ ∀ (σ : St) H D a (ws : List V), σ = some (.ref a) :: ws.map some → ws.length = fs.length → H a = some (exo a C none) →
      ((fs = [] ∧ D.nx σ H) ∨ (fs ≠ [] ∧ ∀ dx H', H dx = none → dx ≠ a → H' a = some (exo a C (some dx)) → H' dx = some (exd dx (fs.zip ws).reverse) → (∀ b, b ≠ a → b ≠ dx → H' b = H b) → D.nx σ H')) → t D σ H := by
  cases fs with
  | nil =>
    cases ss with
    | cons _ _ => simp [chkFs] at h
    | nil =>
      refine ⟨_, pss_nil, fun σ H D a ws hσ hw ha k => ?_⟩
      rcases k with ⟨_, k⟩ | ⟨k, _⟩
      · exact k
      · exact absurd rfl k
  | cons f fs =>
    cases ss with
    | nil => simp [chkFs] at h
    | cons s ss =>
      cases s <;> try (simp [chkFs] at h; done)
      rename_i tg v pos
      cases tg <;> first | (exact absurd h Bool.false_ne_true) | skip
      rename_i um4 um5
      cases um4 <;> first | (exact absurd h Bool.false_ne_true) | skip
      rename_i um6 f' fp
      cases um6 <;> first | (exact absurd h Bool.false_ne_true) | skip
      rename_i s sp
      cases um5 <;> first | (exact absurd h Bool.false_ne_true) | skip
      cases v <;> first | (exact absurd h Bool.false_ne_true) | skip
      rename_i x xp
      simp only [chkFs, Bool.and_eq_true, decide_eq_true_eq] at h
      obtain ⟨⟨⟨⟨⟨rfl, rfl⟩, rfl⟩, hx⟩, hp⟩, hr⟩ := h
      obtain ⟨p1, p2, _⟩ := plainN_ok hp
      obtain ⟨t, ht, kt⟩ := more_ok (ks := (List.range fs.length).map fun j => j + 2) hN hs hK T h0 hl hr (fun f hf => hno f (List.mem_cons_of_mem _ hf)) (by simp) (fun j f hj => by
        have hlt : j < fs.length := (List.getElem?_eq_some_iff.mp hj).1
        exact ⟨j + 2, by simp [hlt], by rw [hN2]; simpa using hj⟩)
      refine ⟨_, pss_cons (ps_ost (pe_var (i := 0) (by rw [hN]; exact h0) (.inl (by rw [hs]; exact hl)) (by decide) (by decide)) (pe_var (i := 1) (by rw [hN, hN2]; rfl) (.inl (by rw [hs]; exact hx)) p1 p2) (by rfl)) ht, fun σ H D a ws hσ hw ha k => ?_⟩
      rcases k with ⟨k, _⟩ | ⟨_, k⟩
      · cases k
      cases ws with
      | nil => simp at hw
      | cons w ws =>
        subst hσ
        have hw' : ws.length = fs.length := by simpa using hw
        refine ⟨w, rfl, .ref a, rfl, a, C, rfl, by rw [hK]; exact T, by rw [hK]; exact hno x List.mem_cons_self, .inl ⟨ha, fun dx hdx hda => ?_⟩⟩
        refine kt _ _ D a dx [(x, w)] ws rfl hw' (fun j k hj => ?_) upd_same (by rw [upd_ne hda]; exact upd_same) hda (by simp only [List.length_cons] at hfew ⊢; simp; omega) fun H' h1 h2 h3 => k dx H' hdx hda h1 ?_ ?_
        · rw [List.getElem?_map] at hj
          by_cases hlt : j < fs.length
          · simp [hlt] at hj
            subst hj
            have hlt' : j < ws.length := by omega
            exact ⟨ws[j], by simp [hlt'], by simp [hlt']⟩
          · simp [hlt] at hj
        · rw [h2]; simp [List.zip_cons_cons, List.reverse_cons]
        · intro b hb hb2
          rw [h3 b hb hb2, upd_ne hb, upd_ne hb2]
end
section
variable {CX : CXT} {P : Program} {w : World} {K : PySem.W.Frag} {mg : Str → Option Value} {base : Heap} {qual name : Str} {scope : Scope} {f cc C : Addr} {cd : Value} {params : Arguments} {body : List Stmt} {dV kV doc pm ct oc : Value} {an od : Option Addr} {osl : Array (Option Value)} {fs : List Str} {tx : List Nat}
theorem init_ok (T : SupT P K mg scope f cc cd C) (lk : K.lookup f = some ⟨oc, od, .func (PySem.W.ksFn name qual params body scope dV kV doc pm an cd ct cc), osl⟩) (hcd : PySem.W.codeIn K cd qual = true) (S : XScope ("self" :: fs) ("self" :: fs) scope)
    (hb : chkBody scope fs tx body = true) (hno : ∀ f ∈ fs, PySem.W.findIn K (.ref C) f = some none) (hfew : fs.length ≤ 9) (k : Nat) :
    FnOk P w K mg base CX (k + 1) f (PySem.W.ksFn name qual params body scope dV kV doc pm an cd ct cc) ("self" :: fs) (spInit C fs tx) := by
  obtain ⟨cl, cld, csl, lcc⟩ := T.cell
  refine fn_ofX (clo := .none) (N := "self" :: fs) lk hcd lcc S (fun vs H Q E h => ?_) fun A outer s s1 H vs Q E hr hsp I => ?_
  · obtain ⟨a, ws, rfl, hl, _⟩ := h
    simp [hl]
  · obtain ⟨a, ws, rfl, hl, ha, htx, hq⟩ := hsp
    have hst : start ("self" :: fs) (V.ref a :: ws) = some (.ref a) :: ws.map some := by
      unfold L2.start
      simp [hl]
    cases body with
    | nil => simp [chkBody] at hb
    | cons s0 rest =>
      cases s0 <;> try (simp [chkBody] at hb; done)
      rename_i ex epos
      cases ex <;> first | (exact absurd hb Bool.false_ne_true) | skip
      rename_i um7 um8 um9 p3
      cases um7 <;> first | (exact absurd hb Bool.false_ne_true) | skip
      rename_i um10 iname p2
      cases um10 <;> first | (exact absurd hb Bool.false_ne_true) | skip
      rename_i um11 um12 um13 p1
      cases um11 <;> first | (exact absurd hb Bool.false_ne_true) | skip
      rename_i sn p0
      cases um12 <;> first | (exact absurd hb Bool.false_ne_true) | skip
      cases um13 <;> first | (exact absurd hb Bool.false_ne_true) | skip
      cases um8 <;> first | (exact absurd hb Bool.false_ne_true) | skip
      rename_i e um14
      cases um14 <;> first | (exact absurd hb Bool.false_ne_true) | skip
      cases um9 <;> first | (exact absurd hb Bool.false_ne_true) | skip
      simp only [chkBody, Bool.and_eq_true, decide_eq_true_eq] at hb
      obtain ⟨⟨⟨⟨hline, rfl⟩, rfl⟩, ht⟩, hf⟩ := hb
      have hse : ∀ env, starEach (e :: []) env = (false, eval e env) :: starEach [] env := fun env => by
        cases e <;> first | rfl | (simp [chkTx] at ht)
      obtain ⟨ta, hta, kta⟩ := tx_ok (X := xcxOf CX P w K mg base ("self" :: fs) qual scope f cd cc A outer s H E) (N := "self" :: fs) rfl rfl S.nd ht
      obtain ⟨tf, htf, ktf⟩ := fields_ok (X := xcxOf CX P w K mg base ("self" :: fs) qual scope f cd cc A outer s H E) (N := "self" :: fs) rfl rfl rfl T.cls rfl T.nl hf hno rfl hfew
      have hx : TxOk tx (start ("self" :: fs) (V.ref a :: ws)) := fun i hi => by
        obtain ⟨v, hv, tv⟩ := htx i hi
        exact ⟨v, by rw [hst]; simp [hv], tv⟩
      refine PySem.ks_wpAt_execs_cons (PySem.ks_wpAt_mono (sup_at (D := { nx := fun σ' H' => σ' = start ("self" :: fs) (V.ref a :: ws) ∧ H' = H, rt := fun _ _ => False }) T rfl I (by rw [hst]; rfl) ha hta (kta _ _ _ hx fun out => ⟨by simp, ha, rfl, rfl⟩) ?_ ?_) (fun fl s' hsp => ?_) (fun _ _ z => z))
      · exact hse _
      · exact cf_of _ hline (hse _)
      · cases fl with
        | next =>
          obtain ⟨σ', H', J, rfl, rfl⟩ := hsp
          refine PySem.wpAt_of_wpAny (htf.run [] s' _ _ _ J (ktf _ _ _ a ws hst hl ha ?_))
          exact hq
        | ret u =>
          obtain ⟨_, _, _, _, _, q⟩ := hsp
          exact q.elim
        | brk =>
          obtain ⟨_, _, _, q⟩ := hsp
          exact q.elim
        | cont =>
          obtain ⟨_, _, _, q⟩ := hsp
          exact q.elim
end
end DL
namespace DL
open PySem PySem.Spec L2
section
variable {CX : CXT} {P : Program} {w : World} {K : PySem.W.Frag} {mg : Str → Option Value} {base : Heap} {T : Tb} {Γ : Gm} {lv lv' : Nat}
theorem ErrOk.mono {C : Addr} {fs : List Str} {tx : List Nat} (h : ErrOk CX P w K mg base lv C fs tx) (hl : lv ≤ lv') : ErrOk CX P w K mg base lv' C fs tx :=
  ⟨h.oex, h.nd, h.few, by obtain ⟨k, fI, fd, ps, hk, a⟩ := h.made; exact ⟨k, fI, fd, ps, Nat.le_trans hk hl, a⟩⟩
theorem ClaOk.mono (hl : lv ≤ lv') {C : Addr} : ∀ {i : Option (Nat × DSp × List D)}, ClaOk CX P w K mg base lv C i → ClaOk CX P w K mg base lv' C i
  | none, h => h
  | some (n, sp, dfl), h => by
    rcases h with ⟨k, f, fd, ps, hk, r⟩ | h
    · exact .inl ⟨k, f, fd, ps, Nat.le_trans hk hl, r⟩
    · exact .inr h
theorem KwcOk.mono (hl : lv ≤ lv') {C : Addr} {np : Nat} {ks : List Str} {pat : List (Sum Nat D)} : ∀ {i : Option (Nat × DSp × List D)}, KwcOk CX P w K mg base lv C np ks pat i → KwcOk CX P w K mg base lv' C np ks pat i
  | none, h => h
  | some (n, sp, dfl), h => by
    obtain ⟨k, f, fd, ps, gg, gV, hk, r⟩ := h
    exact ⟨k, f, fd, ps, gg, gV, Nat.le_trans hk hl, r⟩
theorem MtOk.mono (hl : lv ≤ lv') {C : Addr} {m : Str} {n : Nat} {sp : DSp} {dfl : List D} (h : MtOk CX P w K mg base lv C m n sp dfl) : MtOk CX P w K mg base lv' C m n sp dfl := by
  obtain ⟨k, f, fd, ps, hk, r⟩ := h
  exact ⟨k, f, fd, ps, Nat.le_trans hk hl, r⟩
theorem PrOk.mono (hl : lv ≤ lv') {C : Addr} {f : Str} {sp : DSp} (h : PrOk CX P w K mg base lv C f sp) : PrOk CX P w K mg base lv' C f sp := by
  obtain ⟨k, p, g, fd, ps, hk, r⟩ := h
  exact ⟨k, p, g, fd, ps, Nat.le_trans hk hl, r⟩
theorem GlobOkM.mono (hl : lv ≤ lv') {x : Str} : ∀ {o : Option (Nat × Nat)} {g : GV}, GlobOkM CX P w K mg base lv x o g → GlobOkM CX P w K mg base lv' x o g
  | some (n, k), .fn n' sp dfl, h => by
    obtain ⟨a, b, f, fd, ps, F, r⟩ := h
    exact ⟨a, b, f, fd, ps, F.mono hl, r⟩
  | none, .val d, h => h
  | none, .cls C, h => h
  | none, .err C fs tx, h => ⟨h.1, h.2.mono hl⟩
  | none, .cla C i, h => ⟨h.1, h.2.mono hl⟩
  | some (_, _), .cla _ _, h => h.elim
  | some (_, _), .val _, h => h.elim
  | some (_, _), .cls _, h => h.elim
  | some (_, _), .err _ _ _, h => h.elim
  | none, .fn _ _ _, h => h.elim
theorem KwOk.mono (hl : lv ≤ lv') {x : Str} {n' : Nat} {sp : DSp} {np : Nat} {ks : List Str} {pat : List (Sum Nat D)} (h : KwOk CX P w K mg base lv x n' sp np ks pat) : KwOk CX P w K mg base lv' x n' sp np ks pat := by
  obtain ⟨f, fd, ps, gg, gV, F, r⟩ := h
  exact ⟨f, fd, ps, gg, gV, F.mono hl, r⟩
theorem GM.mono (G : GM CX P w K mg base T Γ lv) (hl : lv ≤ lv') : GM CX P w K mg base T Γ lv' :=
  { xn := G.xn, gcd := G.gcd, glob := fun g x o h => (G.glob g x o h).mono hl, fld := G.fld, xfl := G.xfl, sub := G.sub, mt := fun g C m n sp dfl h1 h => (G.mt g C m n sp dfl h1 h).mono hl, pr := fun g C f sp h1 h => (G.pr g C f sp h1 h).mono hl, isi := G.isi, nf := G.nf, kwm := fun g x np ks pat C i h1 h2 h3 => (G.kwm g x np ks pat C i h1 h2 h3).mono hl, kwc := fun g x nk np ks pat n' sp dfl h1 h2 h3 => (G.kwc g x nk np ks pat n' sp dfl h1 h2 h3).mono hl }
theorem GM.tb (G : GM CX P w K mg base T Γ lv) {T' : Tb} (h1 : T'.gn = T.gn) (h2 : T'.xn = T.xn) (h3 : T'.gcd = T.gcd ∧ T'.lcm = T.lcm) : GM CX P w K mg base T' Γ lv :=
  { xn := by rw [h2]; exact G.xn, gcd := by rw [h3.1, h3.2]; exact G.gcd, glob := by rw [h1]; exact G.glob, fld := G.fld, xfl := G.xfl, sub := G.sub, mt := G.mt, pr := G.pr, isi := G.isi, nf := G.nf, kwm := by rw [h1]; exact G.kwm, kwc := by rw [h1]; exact G.kwc }
def Gm.put (Γ : Gm) (g : Nat) (v : GV) : Gm := { Γ with gv := fun i => if i = g then v else Γ.gv i }
structure FnG (K : PySem.W.Frag) (mg : Str → Option Value) (x : Str) (n k : Nat) (dfl : List D) (f : Addr) (fd : FuncData) (ps : List Str) : Prop where
  m : mg x = some (.ref f)
  kp : PySem.W.keepIn K (.ref f) = true
  len : ps.length = n
  dl : dfl.length = k
  bd : ∀ j, j ≤ k → ∃ dvs ds, Binds K fd ps ds ∧ Vals dvs ds ∧ ∀ H, Reps K H (dfl.drop (k - j)) dvs
theorem FnG.glob {x : Str} {n k : Nat} {dfl : List D} {f : Addr} {fd : FuncData} {ps : List Str} (h : FnG K mg x n k dfl f fd ps) {sp : DSp} (F : FnOk P w K mg base CX lv f fd ps (liftSp K n sp)) : GlobOkM CX P w K mg base lv x (some (n, k)) (.fn n sp dfl) :=
  ⟨rfl, h.dl, f, fd, ps, F, h.m, h.kp, h.len, h.bd⟩
def spNo : DSp := fun _ _ _ _ => False
theorem fnNo {f : Addr} {fd : FuncData} {ps : List Str} {n : Nat} : FnOk P w K mg base CX lv f fd ps (liftSp K n spNo) :=
  ⟨fun vs H Q E ⟨_, _, _, _, _, _, _, z, _⟩ => z.elim, fun A outer s H args us vs Q E hr he hb hv ⟨_, _, _, _, _, _, _, z, _⟩ => z.elim⟩
theorem GM.step (G : GM CX P w K mg base T Γ lv) (hl : lv ≤ lv') {g : Nat} {x : Str} {n k : Nat} {sp : DSp} {dfl : List D} (hg : T.gn[g]? = some (x, some (n, k))) (h : GlobOkM CX P w K mg base lv' x (some (n, k)) (.fn n sp dfl))
    (hk : ∀ np ks pat, Γ.kwc g np ks = some pat → KwOk CX P w K mg base lv' x n sp np ks pat) : GM CX P w K mg base T (Γ.put g (.fn n sp dfl)) lv' where
  xn := G.xn
  gcd := G.gcd
  glob := fun i y o hi => by
    show GlobOkM CX P w K mg base lv' y o (if i = g then _ else Γ.gv i)
    by_cases e : i = g
    · subst e
      rw [if_pos rfl]
      rw [hg] at hi
      cases hi
      exact h
    · rw [if_neg e]
      exact (G.glob i y o hi).mono hl
  fld := G.fld
  mt := fun i C m n' sp' dfl' h1 h => by
    have h1 : GV.insOf (if i = g then GV.fn n sp dfl else Γ.gv i) = some C := h1
    by_cases e : i = g
    · rw [if_pos e] at h1; cases h1
    · rw [if_neg e] at h1; exact (G.mt i C m n' sp' dfl' h1 h).mono hl
  pr := fun i C f sp' h1 h => by
    have h1 : GV.insOf (if i = g then GV.fn n sp dfl else Γ.gv i) = some C := h1
    by_cases e : i = g
    · rw [if_pos e] at h1; cases h1
    · rw [if_neg e] at h1; exact (G.pr i C f sp' h1 h).mono hl
  isi := G.isi
  nf := G.nf
  kwm := fun i y np ks pat C j hi hv hp => by
    have hv : (if i = g then _ else Γ.gv i) = GV.cla C j := hv
    by_cases e : i = g
    · rw [if_pos e] at hv; cases hv
    · rw [if_neg e] at hv
      exact (G.kwm i y np ks pat C j hi hv hp).mono hl
  xfl := G.xfl
  sub := G.sub
  kwc := fun i y nk np ks pat n' sp' dfl' hi hv hp => by
    have hv : (if i = g then _ else Γ.gv i) = GV.fn n' sp' dfl' := hv
    by_cases e : i = g
    · subst e
      rw [if_pos rfl] at hv
      cases hv
      rw [hg] at hi
      cases hi
      exact hk np ks pat hp
    · rw [if_neg e] at hv
      exact (G.kwc i y nk np ks pat n' sp' dfl' hi hv hp).mono hl
theorem GM.stepC (G : GM CX P w K mg base T Γ lv) (hl : lv ≤ lv') {g : Nat} {x : Str} {C : Addr} {i : Option (Nat × DSp × List D)} (hg : T.gn[g]? = some (x, none)) (hC : (Γ.gv g).insOf = some C) (h : GlobOkM CX P w K mg base lv' x none (.cla C i))
    (hk : ∀ np ks pat, Γ.kwc g np ks = some pat → KwcOk CX P w K mg base lv' C np ks pat i) : GM CX P w K mg base T (Γ.put g (.cla C i)) lv' where
  xn := G.xn
  gcd := G.gcd
  glob := fun i' y o hi => by
    show GlobOkM CX P w K mg base lv' y o (if i' = g then _ else Γ.gv i')
    by_cases e : i' = g
    · subst e
      rw [if_pos rfl]
      rw [hg] at hi
      cases hi
      exact h
    · rw [if_neg e]
      exact (G.glob i' y o hi).mono hl
  fld := G.fld
  mt := fun i' D m n' sp' dfl' h1 h => by
    have h1 : GV.insOf (if i' = g then GV.cla C i else Γ.gv i') = some D := h1
    by_cases e : i' = g
    · rw [if_pos e] at h1; cases h1; exact (G.mt i' C m n' sp' dfl' (by rw [e]; exact hC) h).mono hl
    · rw [if_neg e] at h1; exact (G.mt i' D m n' sp' dfl' h1 h).mono hl
  pr := fun i' D f sp' h1 h => by
    have h1 : GV.insOf (if i' = g then GV.cla C i else Γ.gv i') = some D := h1
    by_cases e : i' = g
    · rw [if_pos e] at h1; cases h1; exact (G.pr i' C f sp' (by rw [e]; exact hC) h).mono hl
    · rw [if_neg e] at h1; exact (G.pr i' D f sp' h1 h).mono hl
  isi := G.isi
  nf := G.nf
  kwm := fun i' y np ks pat C' j hi hv hp => by
    have hv : (if i' = g then _ else Γ.gv i') = GV.cla C' j := hv
    by_cases e : i' = g
    · subst e
      rw [if_pos rfl] at hv
      cases hv
      exact hk np ks pat hp
    · rw [if_neg e] at hv
      exact (G.kwm i' y np ks pat C' j hi hv hp).mono hl
  xfl := G.xfl
  sub := G.sub
  kwc := fun i' y nk np ks pat n' sp' dfl' hi hv hp => by
    have hv : (if i' = g then _ else Γ.gv i') = GV.fn n' sp' dfl' := hv
    by_cases e : i' = g
    · rw [if_pos e] at hv; cases hv
    · rw [if_neg e] at hv
      exact (G.kwc i' y nk np ks pat n' sp' dfl' hi hv hp).mono hl
def Gm.putM (Γ : Gm) (g : Nat) (m : Str) (v : Nat × DSp × List D) : Gm := { Γ with mt := fun i k => if i = g then (if k = m then some v else Γ.mt i k) else Γ.mt i k }
def Gm.putP (Γ : Gm) (g : Nat) (f : Str) (v : DSp) : Gm := { Γ with pr := fun i k => if i = g then (if k = f then some v else Γ.pr i k) else Γ.pr i k }
theorem GM.stepM (G : GM CX P w K mg base T Γ lv) (hl : lv ≤ lv') {g : Nat} {C : Addr} (hC : (Γ.gv g).insOf = some C) {m : Str} {n : Nat} {sp : DSp} {dfl : List D} (h : MtOk CX P w K mg base lv' C m n sp dfl) : GM CX P w K mg base T (Γ.putM g m (n, sp, dfl)) lv' :=
  let G' := G.mono hl
  { xn := G.xn, gcd := G.gcd, glob := G'.glob, fld := G.fld, xfl := G.xfl, sub := G.sub, pr := G'.pr, isi := G.isi, nf := G.nf, kwm := G'.kwm, kwc := G'.kwc,
    mt := fun i D k n' sp' dfl' h1 q0 => by
      by_cases e : i = g
      · have q : (if k = m then some (n, sp, dfl) else Γ.mt i k) = some (n', sp', dfl') := (if_pos e).symm.trans q0
        have e3 : some C = some D := (by rw [← e] at hC; exact hC.symm.trans h1)
        cases e3
        by_cases e2 : k = m
        · have q2 := (if_pos e2).symm.trans q
          cases q2
          rw [e2]
          exact h
        · exact G'.mt i C k n' sp' dfl' h1 ((if_neg e2).symm.trans q)
      · exact G'.mt i D k n' sp' dfl' h1 ((if_neg e).symm.trans q0) }
theorem GM.stepP (G : GM CX P w K mg base T Γ lv) (hl : lv ≤ lv') {g : Nat} {C : Addr} (hC : (Γ.gv g).insOf = some C) {f : Str} {sp : DSp} (h : PrOk CX P w K mg base lv' C f sp) : GM CX P w K mg base T (Γ.putP g f sp) lv' :=
  let G' := G.mono hl
  { xn := G.xn, gcd := G.gcd, glob := G'.glob, fld := G.fld, xfl := G.xfl, sub := G.sub, mt := G'.mt, isi := G.isi, nf := G.nf, kwm := G'.kwm, kwc := G'.kwc,
    pr := fun i D k sp' h1 q0 => by
      by_cases e : i = g
      · have q : (if k = f then some sp else Γ.pr i k) = some sp' := (if_pos e).symm.trans q0
        have e3 : some C = some D := (by rw [← e] at hC; exact hC.symm.trans h1)
        cases e3
        by_cases e2 : k = f
        · have q2 := (if_pos e2).symm.trans q
          cases q2
          rw [e2]
          exact h
        · exact G'.pr i C k sp' h1 ((if_neg e2).symm.trans q)
      · exact G'.pr i D k sp' h1 ((if_neg e).symm.trans q0) }
theorem mkB_ok {C f : Addr} (h : mkB K C f = true) : Mk K C f := by
  obtain ⟨h1, h⟩ := Bool.and_eq_true_iff.mp h
  obtain ⟨h2, h⟩ := Bool.and_eq_true_iff.mp h
  obtain ⟨h3, h4⟩ := Bool.and_eq_true_iff.mp h
  exact ⟨h1, of_decide_eq_true h2, h3, h4⟩
theorem metB_ok {C f : Addr} {m : Str} (h : metB K C m f = true) : Meth K C m f := by
  obtain ⟨h1, h⟩ := Bool.and_eq_true_iff.mp h
  obtain ⟨h2, h3⟩ := Bool.and_eq_true_iff.mp h
  exact ⟨of_decide_eq_true h1, h2, h3⟩
theorem prpB_ok {C p g : Addr} {f : Str} (h : prpB K C f p g = true) : PropOf K C f p g := by
  obtain ⟨h1, h⟩ := Bool.and_eq_true_iff.mp h
  obtain ⟨h2, h⟩ := Bool.and_eq_true_iff.mp h
  obtain ⟨h3, h4⟩ := Bool.and_eq_true_iff.mp h
  refine ⟨of_decide_eq_true h1, of_decide_eq_true h2, of_decide_eq_true h3, ?_⟩
  split at h4
  · rename_i g' r e
    have := of_decide_eq_true h4
    subst this
    exact ⟨_, e⟩
  · cases h4
end
end DL
namespace DL
open PySem PySem.Spec L2
theorem bAnd {a b : Bool} (h : (a && b) = true) : a = true ∧ b = true := Bool.and_eq_true_iff.mp h
theorem clsB_ok {K : PySem.W.Frag} {C : Addr} (h : clsB K C = true) : ∃ nm q N bs bm sn sub ab col dd k0 k1 k2 k3 k5, K.lookup C = some (excClassObj nm q C N bs bm true sn sub ab col dd k0 k1 k2 k3 k5 "ValueError.__new__") ∧ PySem.HandSPX.refsVE bm = true := by
  unfold clsB at h
  split at h
  · rename_i t dd cd sl ho
    obtain ⟨h1, h⟩ := bAnd h
    obtain ⟨h2, h⟩ := bAnd h
    obtain ⟨h3, h⟩ := bAnd h
    obtain ⟨h4, h5⟩ := bAnd h
    have e1 := of_decide_eq_true h1
    subst e1
    unfold mroB at h2
    split at h2
    · rename_i c bm hm
      obtain ⟨h6, h7⟩ := bAnd h2
      have e2 := of_decide_eq_true h6
      subst e2
      unfold slotsB at h5
      split at h5
      · rename_i k0 k1 k2 k3 n k5 hs
        have e3 := of_decide_eq_true h5
        subst e3
        obtain ⟨nm, bs, mro, ns, qn, hd, sn, sub, ab, col, del⟩ := cd
        dsimp only at hm h3 h4
        have e4 : del = false := by simpa using h4
        subst hm e4 h3
        have hsl : sl = #[k0, k1, k2, k3, some (.builtin "ValueError.__new__"), k5] := by
          obtain ⟨l⟩ := sl
          simp only at hs
          rw [hs]
        subst hsl
        exact ⟨nm, qn, ns, bs, bm, sn, sub, ab, col, dd, k0, k1, k2, k3, k5, ho, h7⟩
      · cases h5
    · cases h2
  · cases h
theorem oexB_ok {K : PySem.W.Frag} {C : Addr} (h : oexB K C = true) : OexC K C := by
  obtain ⟨h1, h⟩ := bAnd h
  obtain ⟨h2, h⟩ := bAnd h
  obtain ⟨h3, h⟩ := bAnd h
  obtain ⟨h4, h5⟩ := bAnd h
  exact ⟨clsB_ok h1, of_decide_eq_true h2, of_decide_eq_true h3, of_decide_eq_true h4, h5⟩
theorem parB_ok {a : Arguments} {ps : List Str} (h : parB a ps = true) : ∃ as : List Arg, a = ⟨[], as, none, [], [], none, []⟩ ∧ as.map (·.arg) = ps ∧ as.length ≤ 4 := by
  unfold parB at h
  split at h
  · rename_i as
    obtain ⟨h1, h2⟩ := bAnd h
    exact ⟨as, rfl, of_decide_eq_true h1, of_decide_eq_true h2⟩
  · cases h
theorem xscB_ok {N ps : List Str} {sc : Scope} (h : xscB N ps sc = true) : XScope N ps sc := by
  obtain ⟨h1, h⟩ := bAnd h
  obtain ⟨h2, h⟩ := bAnd h
  obtain ⟨h3, h⟩ := bAnd h
  obtain ⟨h4, h⟩ := bAnd h
  obtain ⟨h5, h⟩ := bAnd h
  obtain ⟨h6, h⟩ := bAnd h
  obtain ⟨h7, h8⟩ := bAnd h
  exact ⟨of_decide_eq_true h1, by simpa using h2, by simpa using h3, of_decide_eq_true h4, of_decide_eq_true h5, fun x hx => of_decide_eq_true (List.all_eq_true.mp h6 x hx), fun y hy => of_decide_eq_true (List.all_eq_true.mp h7 y hy),
    fun y hy e => by
      have z := List.all_eq_true.mp h8 y hy
      simp only [e, ne_eq, not_true_eq_false, decide_false, Bool.false_or, decide_eq_true_eq] at z
      exact z⟩
theorem codeB_ok {P : Program} {K : PySem.W.Frag} {cd : Value} (h : codeB P K cd = true) : ∃ cda ccl cdd vs ccs file tf, cd = .ref cda ∧ K.lookup cda = some ⟨ccl, cdd, .fields vs, ccs⟩ ∧ vs[2]? = some (.str file tf) ∧ ((P.main.file : Str) == file) = true := by
  unfold codeB at h
  split at h
  · split at h
    · rename_i ho
      split at h
      · rename_i hv
        exact ⟨_, _, _, _, _, _, _, rfl, ho, hv, h⟩
      · cases h
    · cases h
  · cases h
theorem cellB_ok {K : PySem.W.Frag} {cc C : Addr} (h : cellB K cc C = true) : ∃ cl cld csl, K.lookup cc = some ⟨cl, cld, .cell (some (.ref C)), csl⟩ := by
  unfold cellB at h
  split at h
  · rename_i ho
    have e := of_decide_eq_true h
    subst e
    exact ⟨_, _, _, ho⟩
  · cases h
def BindI (fs : List Str) : Prop := ∀ (as : List Arg) (us : List Value) (name qual : Str) (body : List Stmt) (scope : Scope) (kV doc pm : Value) (an : Option Addr) (cd ct : Value) (cc : Addr), as.map (·.arg) = ("self" : Str) :: fs → us.length = as.length →
  bindArgs (PySem.W.ksFn name qual ⟨[], as, none, [], [], none, []⟩ body scope .none kV doc pm an cd ct cc) ⟨us, []⟩ = pure ((as.map (·.arg)).zip us)
theorem bindI_what : BindI ["what"] := fun as us _ _ _ _ _ _ _ _ _ _ _ h hl => by
  match as, us, hl with
  | [⟨a, x, p⟩, ⟨b, y, q⟩], [u, v], _ =>
    simp only [List.map_cons, List.map_nil, List.cons.injEq, and_true] at h
    obtain ⟨rfl, rfl⟩ := h
    rfl
  | [], _, _ => simp at h
  | [_], _, _ => simp at h
  | _ :: _ :: _ :: _, _, _ => simp at h
section
variable {CX : CXT} {P : Program} {w : World} {K : PySem.W.Frag} {mg : Str → Option Value} {base : Heap}
theorem errB_ok {C fI : Addr} {fs : List Str} {tx : List Nat} (hbi : BindI fs) (h : errB P K C fI fs tx = true) (G : base.Ns mainGlobals mg) (X : K.In base) (k : Nat) : ErrOk CX P w K mg base (k + 2) C fs tx := by
  obtain ⟨h1, h⟩ := bAnd h
  obtain ⟨h2, h⟩ := bAnd h
  obtain ⟨h3, h⟩ := bAnd h
  obtain ⟨h4, h⟩ := bAnd h
  obtain ⟨h5, h⟩ := bAnd h
  obtain ⟨h6, h⟩ := bAnd h
  obtain ⟨h7, h⟩ := bAnd h
  obtain ⟨h8, h⟩ := bAnd h
  obtain ⟨h9, h⟩ := bAnd h
  obtain ⟨ha, h⟩ := bAnd h
  obtain ⟨hb, h⟩ := bAnd h
  obtain ⟨hc, h⟩ := bAnd h
  have few := of_decide_eq_true h5
  split at h
  · rename_i oc od fd osl lk
    unfold iniB at h
    obtain ⟨name, qual, params, fb, scope, glb, clo, dV, kV, doc, pm, an, cd, ct, blt⟩ := fd
    dsimp only at h
    split at h
    · rename_i b cn cc
      obtain ⟨i0, h⟩ := bAnd h
      obtain ⟨i1, h⟩ := bAnd h
      obtain ⟨i2, h⟩ := bAnd h
      obtain ⟨i3, h⟩ := bAnd h
      obtain ⟨i4, h⟩ := bAnd h
      obtain ⟨i5, h⟩ := bAnd h
      obtain ⟨i6, h⟩ := bAnd h
      obtain ⟨i7, h⟩ := bAnd h
      obtain ⟨i8, h⟩ := bAnd h
      obtain ⟨i9, h⟩ := bAnd h
      obtain ⟨j1, h⟩ := bAnd h
      obtain ⟨j2, j3⟩ := bAnd h
      have e0 := of_decide_eq_true i0
      have e1 := of_decide_eq_true i1
      have e3 := of_decide_eq_true i3
      have e4 := of_decide_eq_true i4
      subst e0 e1 e3 e4
      obtain ⟨as, rfl, has, hal⟩ := parB_ok i6
      have S := xscB_ok i5
      have T : SupT P K mg scope fI cc cd C := {
        fn := by
          cases as with
          | nil => simp at has
          | cons a as =>
            simp only [List.map_cons, List.cons.injEq] at has
            exact ⟨_, _, _, _, a, lk, rfl, has.1⟩
        code := codeB_ok i8
        cell := cellB_ok i9
        cls := oexB_ok h1
        self := of_decide_eq_true h7
        sup := PySem.W.mg_none_of X G (of_decide_eq_true h8)
        top := by simpa using h9
        ns := of_decide_eq_true j1
        nc := of_decide_eq_true j2
        nl := of_decide_eq_true j3
        any := of_decide_eq_true ha
        along := of_decide_eq_true hb
        isv := of_decide_eq_true hc }
      refine ⟨oexB_ok h1, of_decide_eq_true h4, by omega, k + 1, fI, _, "self" :: fs, Nat.le_refl _, of_decide_eq_true h2, of_decide_eq_true h3,
        init_ok (name := name) (params := ⟨[], as, none, [], [], none, []⟩) (dV := .none) (kV := kV) (doc := doc) (pm := pm) (ct := ct) (an := an) T lk i7 S i2 (fun f hf => of_decide_eq_true (List.all_eq_true.mp h6 f hf)) (by omega) k, ?_⟩
      refine .all fun us hl => ?_
      rw [← has] at hl ⊢
      exact hbi as us _ _ _ _ _ _ _ _ _ _ _ has (by simpa using hl)
    · cases h
  · cases h
end
end DL
namespace DL
open PySem PySem.Spec L2
theorem excB_ok {K : PySem.W.Frag} {D : Addr} (h : excB K D = true) : ExcC K D := by
  obtain ⟨h1, h⟩ := bAnd h
  obtain ⟨h2, h⟩ := bAnd h
  obtain ⟨h3, h⟩ := bAnd h
  obtain ⟨h4, h⟩ := bAnd h
  obtain ⟨h5, h⟩ := bAnd h
  obtain ⟨h6, h⟩ := bAnd h
  obtain ⟨h7, h8⟩ := bAnd h
  exact ⟨of_decide_eq_true h1, of_decide_eq_true h2, of_decide_eq_true h3, h4, of_decide_eq_true h5, of_decide_eq_true h6, of_decide_eq_true h7, of_decide_eq_true h8⟩
theorem subX_ok {K : PySem.W.Frag} {C C' : Addr} {b : Bool} (h : subX K C C' = some b) : ExcC K C ∧ PySem.W.kitOne K (.ref C) (.ref C') = some b ∧ PySem.W.exmOne K (.ref C) (.ref C') = some b := by
  unfold subX at h
  split at h
  · rename_i he
    split at h
    · rename_i x y h1 h2
      split at h
      · rename_i e
        cases h
        subst e
        exact ⟨excB_ok he, h1, h2⟩
      · cases h
    · cases h
  · cases h
def xflX (K : PySem.W.Frag) (C : Addr) (f : Str) : Prop := xfB K C = true ∧ PySem.W.findIn K (.ref C) f = some none
theorem clsOB_ok {K : PySem.W.Frag} {C : Addr} (h : clsOB K C = true) : Cls K C := by
  obtain ⟨h1, h⟩ := bAnd h
  obtain ⟨h2, h⟩ := bAnd h
  obtain ⟨h3, h4⟩ := bAnd h
  exact ⟨h1, h2, h3, of_decide_eq_true h4⟩
theorem insB_ok {K : PySem.W.Frag} {C : Addr} (h : insB K C = true) : InsF K C := by
  obtain ⟨h1, h⟩ := bAnd h
  obtain ⟨h2, h⟩ := bAnd h
  obtain ⟨h3, h⟩ := bAnd h
  obtain ⟨h4, h5⟩ := bAnd h
  exact ⟨clsOB_ok h1, of_decide_eq_true h2, of_decide_eq_true h3, of_decide_eq_true h4, of_decide_eq_true h5⟩
theorem isiX_ok {K : PySem.W.Frag} {t : Sum String Addr} {C : Addr} {b : Bool} (h : isiX K t C = some b) : IsiOk K t C b := by
  cases t with
  | inl n => exact h
  | inr D =>
    have h : (if insB K D = true then PySem.W.kitOne K (.ref D) (.ref C) else none) = some b := h
    by_cases q : insB K D = true
    · rw [if_pos q] at h; exact ⟨insB_ok q, h⟩
    · rw [if_neg q] at h; cases h
def fldX (K : PySem.W.Frag) (C : Addr) (f : Str) : Prop := clsOB K C = true ∧ PySem.W.findIn K (.ref C) f = some none
def gm0 (K : PySem.W.Frag) (gv : Nat → GV) (kwc : Nat → Nat → List Str → Option (List (Sum Nat D))) : Gm := { gv := gv, fld := fldX K, sub := subX K, xfl := xflX K, kwc := kwc, isi := isiX K, nf := nfX K }
theorem gm0_ok {CX : CXT} {P : Program} {w : World} {K : PySem.W.Frag} {mg : Str → Option Value} {base : Heap} {T : Tb} {gv : Nat → GV} {kwc : Nat → Nat → List Str → Option (List (Sum Nat D))} {lv : Nat} (hx : ∀ x ∈ T.xn, mg x = none) (hg : (T.gcd = true → mg "gcd" = some (.builtin "math.gcd")) ∧ (T.lcm = true → mg "lcm" = some (.builtin "math.lcm")))
    (glob : ∀ g x o, T.gn[g]? = some (x, o) → GlobOkM CX P w K mg base lv x o (gv g)) (hk : ∀ g x nk np ks pat n' sp dfl, T.gn[g]? = some (x, some nk) → gv g = .fn n' sp dfl → kwc g np ks = some pat → KwOk CX P w K mg base lv x n' sp np ks pat) (hkm : ∀ g C i, gv g = .cla C i → i = none) :
    GM CX P w K mg base T (gm0 K gv kwc) lv where
  xn := hx
  gcd := hg
  glob := glob
  fld := fun C f h => ⟨clsOB_ok h.1, h.2⟩
  mt := fun _ _ _ _ _ _ _ h => by cases h
  pr := fun _ _ _ _ _ h => by cases h
  isi := fun t C b h => isiX_ok h
  nf := fun t C h => h
  kwm := fun g x np ks pat C i _ h _ => by rw [hkm g C i h]; trivial
  xfl := fun C f h => ⟨xfB_ok h.1, h.2⟩
  sub := fun C C' b h => subX_ok h
  kwc := hk
theorem fnG0 {K : PySem.W.Frag} {mg : Str → Option Value} {x : Str} {n : Nat} {f : Addr} {fd : FuncData} {ps : List Str} {qual : Str} {params : Arguments} {body : List Stmt} {scope : Scope} (F : FunD K x qual params body scope [] [] f fd) (m : mg x = some (.ref f)) (hn : ps.length = n)
    (h : ∀ (kV doc pm : Value) (an : Option Addr) (cdv ct : Value) (us : List Value), us.length = ps.length → bindArgs (PySem.W.fnOf x qual params body scope .none kV doc pm an cdv ct) ⟨us, []⟩ = pure (ps.zip us)) : FnG K mg x n 0 [] f fd ps :=
  ⟨m, F.kp, hn, rfl, fun j hj => ⟨[], [], F.bindsN h, .nil, fun H => by rw [List.drop_nil]; exact .nil⟩⟩
end DL
namespace DL
open PySem PySem.Spec L2
theorem look_mem {a : Addr} {o : Obj} : ∀ {l : List (Addr × Obj)}, l.lookup a = some o → (a, o) ∈ l
  | [], h => by cases h
  | (b, u) :: l, h => by
    by_cases e : a = b
    · subst e; simp [List.lookup] at h; subst h; exact List.mem_cons_self
    · simp only [List.lookup, beq_eq_false_iff_ne.mpr e] at h; exact List.mem_cons_of_mem _ (look_mem h)
theorem noL_ok {K : PySem.W.Frag} (h : noL K = true) {H : Hp} {a : Addr} {xs : List V} (s : SqL K H a xs) : Rd H a (.lst xs) := by
  rcases s with s | ⟨o, its, n, e, c, _⟩
  · exact s
  · have z := List.all_eq_true.mp h (a, o) (look_mem e)
    simp [c] at z
def spLawD : DSp := fun ds M _ Q => ∃ (a : Addr) (ns : List Int), ds = [.ref a] ∧ ns.length ≤ 63 ∧ (∀ z ∈ ns, Builtin.Int.intBits z ≤ 1048576) ∧ (M a = some (.lst (ns.map D.int)) ∨ M a = some (.rol (ns.map D.int))) ∧ (∀ b, b ≠ a → M b = none) ∧ ∀ M', Q (.bl true) M'
theorem law_imp {K : PySem.W.Frag} (hK : noL K = true) (vs : List V) (H : Hp) (Q : VK) (E : XK) (h : spLawV K vs H Q E) : liftSp K 1 spLawD vs H Q E := by
  obtain ⟨a, ns, rfl, hl, hz, hS, k⟩ := h
  have fin : ∀ (o : MO), (o = .lst (ns.map D.int) ∨ o = .rol (ns.map D.int)) → RepM K H a o → liftSp K 1 spLawD [.ref a] H Q E := fun o ho r => by
    refine ⟨rfl, [.ref a], fun b => if b = a then some o else none, fun _ _ => False, fun d _ => d = .bl true, fun b u e => ?_, .cons (.ref a) .nil, ⟨a, ns, rfl, hl, hz, ?_, fun b hb => if_neg hb, fun M' => rfl⟩, fun d M' v H' _ _ rv e => ?_, fun x M' cls dd H' _ _ _ z => z.elim⟩
    · have e : (if b = a then some o else none) = some u := e
      by_cases hb : b = a
      · rw [if_pos hb] at e; cases e; subst hb; exact r
      · rw [if_neg hb] at e; cases e
    · show (if a = a then some o else none) = _ ∨ (if a = a then some o else none) = _
      rw [if_pos rfl]
      rcases ho with rfl | rfl
      · exact .inl rfl
      · exact .inr rfl
    · subst e; cases rv; exact k H'
  rcases noL_ok hK hS with e | ⟨ob, e⟩
  · exact fin _ (.inl rfl) ⟨_, e, Reps.ints ns⟩
  · exact fin _ (.inr rfl) ⟨_, ob, e, Reps.ints ns⟩
end DL
namespace LW
open PySem PySem.Spec L2 DL
def m_lowest : Sms := (.cons (.set 2 (.bi .gcd (.cons (.var 0) (.cons (.var 1) .nil)))) (.cons (.ifs (.cmp .Lt (.var 1) (.int 0)) (.cons (.set 2 (.neg (.var 2))) .nil) .nil) (.cons (.ret (.tup (.cons (.op .FloorDiv (.var 0) (.var 2)) (.cons (.op .FloorDiv (.var 1) (.var 2)) .nil)))) .nil)))
def m_plus : Sms := (.cons (.ret (.call 7 (.cons (.op .Add (.op .Mult (.ix (.var 0) (.int 0)) (.ix (.var 1) (.int 1))) (.op .Mult (.ix (.var 1) (.int 0)) (.ix (.var 0) (.int 1)))) (.cons (.op .Mult (.ix (.var 0) (.int 1)) (.ix (.var 1) (.int 1))) .nil)))) .nil)
def m_negative : Sms := (.cons (.ret (.tup (.cons (.neg (.ix (.var 0) (.int 0))) (.cons (.ix (.var 0) (.int 1)) .nil)))) .nil)
abbrev rt (p : Int × Int) : D := .tup [.int p.1, .int p.2]
def lowP (a b : Int) : Int × Int := let g : Int := (Nat.gcd a.natAbs b.natAbs : Nat); if b < 0 then (a.fdiv (-g), b.fdiv (-g)) else (a.fdiv g, b.fdiv g)
def sp_lowest : DSp := fun ds M _ Q => ∃ a b : Int, ds = [.int a, .int b] ∧ b ≠ 0 ∧ b.natAbs.log2 < 8000 ∧ Q (rt (lowP a b)) M
theorem pure_lowest {Γ : Gm} : ∀ ds M E Q, ds.length = 2 → sp_lowest ds M E Q → bodyD Γ 3 m_lowest ds M E Q := by
  rintro ds M E Q hl ⟨a, b, rfl, hb, hs, h⟩
  have h0 : Nat.gcd a.natAbs b.natAbs ≠ 0 := fun z => hb (Int.natAbs_eq_zero.mp (Nat.eq_zero_of_gcd_eq_zero_right z))
  have h1 : (Nat.gcd a.natAbs b.natAbs).log2 < 9000 := by
    have h2 : b.natAbs < 2 ^ 8000 := (Nat.log2_lt (by omega)).mp hs
    exact (Nat.log2_lt h0).mpr (Nat.lt_of_le_of_lt (Nat.gcd_le_right _ (by omega)) (Nat.lt_of_lt_of_le h2 (Nat.pow_le_pow_right (by decide) (by decide))))
  have hz : 2 ≤ sizeLine := by rw [sizeLine_eq]; decide
  simp [bodyD, m_lowest, evSs, evS, evE, evEs, evT, biD, cmpD, opD]
  unfold lowP rt at h
  by_cases c : b < 0
  · simp only [c, if_true] at h ⊢
    exact ⟨⟨by omega, by rw [Int.natAbs_neg]; exact h1⟩, hz, h⟩
  · simp only [c, if_false] at h ⊢
    exact ⟨⟨by omega, h1⟩, hz, h⟩
def m_minus : Sms := (.cons (.ret (.call 7 (.cons (.op .Sub (.op .Mult (.ix (.var 0) (.int 0)) (.ix (.var 1) (.int 1))) (.op .Mult (.ix (.var 1) (.int 0)) (.ix (.var 0) (.int 1)))) (.cons (.op .Mult (.ix (.var 0) (.int 1)) (.ix (.var 1) (.int 1))) .nil)))) .nil)
def m_times : Sms := (.cons (.ret (.call 7 (.cons (.op .Mult (.ix (.var 0) (.int 0)) (.ix (.var 1) (.int 0))) (.cons (.op .Mult (.ix (.var 0) (.int 1)) (.ix (.var 1) (.int 1))) .nil)))) .nil)
def Sz (n : Nat) (p : Int × Int) : Prop := p.1.natAbs < 2 ^ n ∧ p.2.natAbs < 2 ^ n ∧ 0 < p.2
theorem mulB_of {i j : Int} {a b : Nat} (ha : i.natAbs < 2 ^ a) (hb : j.natAbs < 2 ^ b) (h0 : 0 < a) (h1 : 0 < b) (h : a + b ≤ 1000000) : MulB i j := by
  have z := wide_mul ha hb h0 h1 h
  unfold CMulW at z
  unfold MulB
  omega
theorem mul_lt {i j : Int} {n : Nat} (ha : i.natAbs < 2 ^ n) (hb : j.natAbs < 2 ^ n) : (i * j).natAbs < 2 ^ (n + n) := wide_lt ha hb
def sumP (p q : Int × Int) : Int × Int := lowP (p.1 * q.2 + q.1 * p.2) (p.2 * q.2)
def subP (p q : Int × Int) : Int × Int := lowP (p.1 * q.2 - q.1 * p.2) (p.2 * q.2)
def mulP (p q : Int × Int) : Int × Int := lowP (p.1 * q.1) (p.2 * q.2)
def sp_plus : DSp := fun ds M _ Q => ∃ p q : Int × Int, ds = [rt p, rt q] ∧ Sz 3000 p ∧ Sz 3000 q ∧ Q (rt (sumP p q)) M
def sp_minus : DSp := fun ds M _ Q => ∃ p q : Int × Int, ds = [rt p, rt q] ∧ Sz 3000 p ∧ Sz 3000 q ∧ Q (rt (subP p q)) M
def sp_times : DSp := fun ds M _ Q => ∃ p q : Int × Int, ds = [rt p, rt q] ∧ Sz 3000 p ∧ Sz 3000 q ∧ Q (rt (mulP p q)) M
theorem low_call {Γ : Gm} (hΓ : Γ.gv 7 = .fn 2 sp_lowest []) {a b : Int} {M : Mm} {E : EK} {Q : QD} (hb : b ≠ 0) (hs : b.natAbs.log2 < 8000) (h : Q (rt (lowP a b)) M) : callD (Γ.gv 7) 2 [.int a, .int b] M E Q := by
  rw [hΓ]
  exact ⟨Nat.le_refl _, Nat.le_refl _, rfl, a, b, rfl, hb, hs, h⟩
section
variable {p q : Int × Int} (hp : Sz 3000 p) (hq : Sz 3000 q)
include hp hq
theorem den_ne : p.2 * q.2 ≠ 0 := Int.ne_of_gt (Int.mul_pos hp.2.2 hq.2.2)
theorem den_sz : (p.2 * q.2).natAbs.log2 < 8000 := by
  have z := mul_lt hp.2.1 hq.2.1
  have n0 : (p.2 * q.2).natAbs ≠ 0 := fun z => den_ne hp hq (Int.natAbs_eq_zero.mp z)
  exact (Nat.log2_lt n0).mpr (Nat.lt_of_lt_of_le z (Nat.pow_le_pow_right (by decide) (by decide)))
theorem m12 : MulB p.1 q.2 := mulB_of hp.1 hq.2.1 (by decide) (by decide) (by decide)
theorem m21 : MulB q.1 p.2 := mulB_of hq.1 hp.2.1 (by decide) (by decide) (by decide)
theorem m22 : MulB p.2 q.2 := mulB_of hp.2.1 hq.2.1 (by decide) (by decide) (by decide)
theorem m11 : MulB p.1 q.1 := mulB_of hp.1 hq.1 (by decide) (by decide) (by decide)
end
theorem pure_plus {Γ : Gm} (hΓ : Γ.gv 7 = .fn 2 sp_lowest []) : ∀ ds M E Q, ds.length = 2 → sp_plus ds M E Q → bodyD Γ 2 m_plus ds M E Q := by
  rintro ds M E Q hl ⟨p, q, rfl, hp, hq, h⟩
  exact ⟨.int p.1, rfl, .int q.2, rfl, m12 hp hq, .int q.1, rfl, .int p.2, rfl, m21 hp hq, .int p.2, rfl, .int q.2, rfl, m22 hp hq, low_call hΓ (den_ne hp hq) (den_sz hp hq) h⟩
theorem pure_minus {Γ : Gm} (hΓ : Γ.gv 7 = .fn 2 sp_lowest []) : ∀ ds M E Q, ds.length = 2 → sp_minus ds M E Q → bodyD Γ 2 m_minus ds M E Q := by
  rintro ds M E Q hl ⟨p, q, rfl, hp, hq, h⟩
  exact ⟨.int p.1, rfl, .int q.2, rfl, m12 hp hq, .int q.1, rfl, .int p.2, rfl, m21 hp hq, .int p.2, rfl, .int q.2, rfl, m22 hp hq, low_call hΓ (den_ne hp hq) (den_sz hp hq) h⟩
theorem pure_times {Γ : Gm} (hΓ : Γ.gv 7 = .fn 2 sp_lowest []) : ∀ ds M E Q, ds.length = 2 → sp_times ds M E Q → bodyD Γ 2 m_times ds M E Q := by
  rintro ds M E Q hl ⟨p, q, rfl, hp, hq, h⟩
  exact ⟨.int p.1, rfl, .int q.1, rfl, m11 hp hq, .int p.2, rfl, .int q.2, rfl, m22 hp hq, low_call hΓ (den_ne hp hq) (den_sz hp hq) h⟩
def cmpP (p q : Int × Int) : Int := if p.1 * q.2 - q.1 * p.2 = 0 then 0 else if 0 < p.1 * q.2 - q.1 * p.2 then 1 else -1
def m_is_whole : Sms := (.cons (.ifs (.bop .Or (.cons (.not (.val (.bi .isi (.cons (.var 0) (.cons (.tyn .int) .nil))))) (.cons (.val (.bi .isi (.cons (.var 0) (.cons (.tyn .bool) .nil)))) .nil))) (.cons (.ret (.bl false)) .nil) .nil) (.cons (.ret (.bop .And (.cons (.bop .Or (.cons (.cmp .Is (.var 1) .non) (.cons (.cmp .GtE (.var 0) (.var 1)) .nil))) (.cons (.bop .Or (.cons (.cmp .Is (.var 2) .non) (.cons (.cmp .LtE (.var 0) (.var 2)) .nil))) .nil)))) .nil))
def m_is_ratio : Sms := (.cons (.ifs (.bop .Or (.cons (.not (.val (.bi .isi (.cons (.var 0) (.cons (.tyn .tuple) .nil))))) (.cons (.cmp .NotEq (.bi .len (.cons (.var 0) .nil)) (.int 2)) .nil))) (.cons (.ret (.bl false)) .nil) .nil) (.cons (.ret (.bop .And (.cons (.call 4 (.cons (.ix (.var 0) (.int 0)) .nil)) (.cons (.call 4 (.cons (.ix (.var 0) (.int 1)) (.cons (.int 1) .nil))) (.cons (.cmp .Eq (.bi .gcd (.cons (.ix (.var 0) (.int 0)) (.cons (.ix (.var 0) (.int 1)) .nil))) (.int 1)) .nil))))) .nil))
def stepL (l o : Int × Int) : Int × Int := if cmpP o l < 0 then o else l
def m_law_mix : Sms := (.cons (.set 2 (.op .Mod (.bi .int (.cons (.op .Add (.op .Add (.op .Mult (.var 0) (.int 48271)) (.op .Mult (.var 1) (.int 16807))) (.int 11)) .nil)) (.int 2147483647))) (.cons (.set 3 (.op .Mod (.bi .int (.cons (.op .Add (.op .Add (.op .Mult (.var 2) (.var 2)) (.op .Mult (.op .FloorDiv (.var 2) (.int 127)) (.int 40692))) (.op .Mult (.var 1) (.int 69621))) .nil)) (.int 2147483399))) (.cons (.ret (.op .FloorDiv (.op .Mod (.bi .int (.cons (.op .Add (.op .FloorDiv (.op .Mult (.var 3) (.var 3)) (.int 1009)) (.var 2)) .nil)) (.int 2147483563)) (.int 16))) .nil)))
def onceP (n t : Int) : Int := (n * 48271 + t * 16807 + 11) % 2147483647
def twiceP (n t : Int) : Int := (onceP n t * onceP n t + (onceP n t).fdiv 127 * 40692 + t * 69621) % 2147483399
def mixP (n t : Int) : Int := (((twiceP n t * twiceP n t).fdiv 1009 + onceP n t) % 2147483563).fdiv 16
theorem m64 {i j : Int} (hi : i.natAbs < 2 ^ 64) (hj : j.natAbs < 2 ^ 64) : MulB i j := mulB_of hi hj (by decide) (by decide) (by decide)
theorem mod_sm {i j : Int} (h0 : 0 < j) (h1 : j < 2 ^ 64) : (i % j).natAbs < 2 ^ 64 := by
  have a := Int.emod_nonneg i (show j ≠ 0 by omega)
  have b := Int.emod_lt_of_pos i h0
  omega
def sp_mix : DSp := fun ds M _ Q => ∃ n t : Int, ds = [.int n, .int t] ∧ n.natAbs < 2 ^ 64 ∧ t.natAbs < 2 ^ 64 ∧ Q (.int (mixP n t)) M
theorem pure_law_mix {Γ : Gm} : ∀ ds M E Q, ds.length = 2 → sp_mix ds M E Q → bodyD Γ 4 m_law_mix ds M E Q := by
  rintro ds M E Q hl ⟨n, t, rfl, hn, ht, h⟩
  have o : (onceP n t).natAbs < 2 ^ 64 := mod_sm (by decide) (by decide)
  have w : (twiceP n t).natAbs < 2 ^ 64 := mod_sm (by decide) (by decide)
  have o0 : 0 ≤ onceP n t := Int.emod_nonneg _ (by decide)
  have o1 : onceP n t < 2147483647 := Int.emod_lt_of_pos _ (by decide)
  have f : ((onceP n t).fdiv 127).natAbs < 2 ^ 64 := by
    rw [Int.fdiv_eq_ediv_of_nonneg _ (by decide)]
    omega
  exact ⟨m64 hn (by decide), m64 ht (by decide), by decide, m64 o o, ⟨by decide, by decide⟩, m64 f (by decide), m64 ht (by decide), by decide, m64 w w, ⟨by decide, by decide⟩, by decide, ⟨by decide, by decide⟩, h⟩
end LW
namespace LW
open PySem PySem.Spec L2 DL
def Red (p : Int × Int) : Prop := 0 < p.2 ∧ Nat.gcd p.1.natAbs p.2.natAbs = 1
def val (p : Int × Int) : Rat := Rat.divInt p.1 p.2
theorem lowP_parts {a b : Int} (hb : b ≠ 0) : ∃ s : Int, s ≠ 0 ∧ (lowP a b).1 * s = a ∧ (lowP a b).2 * s = b ∧ Red (lowP a b) := by
  have h0 : Nat.gcd a.natAbs b.natAbs ≠ 0 := fun z => hb (Int.natAbs_eq_zero.mp (Nat.eq_zero_of_gcd_eq_zero_right z))
  have da : ((Nat.gcd a.natAbs b.natAbs : Nat) : Int) ∣ a := Int.ofNat_dvd_left.mpr (Nat.gcd_dvd_left _ _)
  have db : ((Nat.gcd a.natAbs b.natAbs : Nat) : Int) ∣ b := Int.ofNat_dvd_left.mpr (Nat.gcd_dvd_right _ _)
  have key : ∀ s q1 q2 : Int, s.natAbs = Nat.gcd a.natAbs b.natAbs → q1 * s = a → q2 * s = b → Nat.gcd q1.natAbs q2.natAbs = 1 := fun s q1 q2 hs h1 h2 => by
    have e : Nat.gcd (q1.natAbs * s.natAbs) (q2.natAbs * s.natAbs) = s.natAbs := by
      rw [← Int.natAbs_mul, ← Int.natAbs_mul, h1, h2, hs]
    rw [Nat.gcd_mul_right] at e
    have p : 0 < s.natAbs := by omega
    exact Nat.eq_of_mul_eq_mul_right p (by rw [e, Nat.one_mul])
  unfold lowP
  generalize hg : Nat.gcd a.natAbs b.natAbs = g at h0 da db key
  by_cases c : b < 0
  · have na : (-(g : Int)) ∣ a := Int.neg_dvd.mpr da
    have nb : (-(g : Int)) ∣ b := Int.neg_dvd.mpr db
    simp only [c, if_true]
    rw [Int.fdiv_eq_ediv_of_dvd na, Int.fdiv_eq_ediv_of_dvd nb]
    have e1 := Int.ediv_mul_cancel na
    have e2 := Int.ediv_mul_cancel nb
    refine ⟨-(g : Int), by omega, e1, e2, ?_, key (-(g : Int)) _ _ (by omega) e1 e2⟩
    show 0 < b / -(g : Int)
    have : ¬ (b / -(g : Int) ≤ 0) := fun z => by
      have := Int.mul_nonneg_of_nonpos_of_nonpos z (show -(g : Int) ≤ 0 by omega)
      omega
    omega
  · simp only [c, if_false]
    rw [Int.fdiv_eq_ediv_of_dvd da, Int.fdiv_eq_ediv_of_dvd db]
    have e1 := Int.ediv_mul_cancel da
    have e2 := Int.ediv_mul_cancel db
    refine ⟨(g : Int), by omega, e1, e2, ?_, key (g : Int) _ _ (by omega) e1 e2⟩
    show 0 < b / (g : Int)
    have : ¬ (b / (g : Int) ≤ 0) := fun z => by
      have := Int.mul_nonpos_of_nonpos_of_nonneg z (show (0 : Int) ≤ (g : Int) by omega)
      omega
    omega
theorem lowP_red {a b : Int} (hb : b ≠ 0) : Red (lowP a b) := by
  obtain ⟨s, _, _, _, r⟩ := lowP_parts (a := a) hb
  exact r
theorem val_lowP {a b : Int} (hb : b ≠ 0) : val (lowP a b) = Rat.divInt a b := by
  obtain ⟨s, s0, h1, h2, r⟩ := lowP_parts (a := a) hb
  unfold val
  rw [Rat.divInt_eq_divInt_iff (by have := r.1; omega) hb]
  generalize (lowP a b).1 = x at h1 ⊢
  generalize (lowP a b).2 = y at h2 ⊢
  subst h1 h2
  rw [Int.mul_comm y s, ← Int.mul_assoc]
theorem den_mul {p q : Int × Int} (hp : 0 < p.2) (hq : 0 < q.2) : p.2 * q.2 ≠ 0 := Int.ne_of_gt (Int.mul_pos hp hq)
theorem val_sumP {p q : Int × Int} (hp : 0 < p.2) (hq : 0 < q.2) : val (sumP p q) = val p + val q := by
  unfold sumP
  rw [val_lowP (den_mul hp hq)]
  unfold val
  rw [Rat.divInt_add_divInt _ _ (by omega) (by omega)]
theorem sumP_red {p q : Int × Int} (hp : 0 < p.2) (hq : 0 < q.2) : Red (sumP p q) := lowP_red (den_mul hp hq)
theorem mulP_red {p q : Int × Int} (hp : 0 < p.2) (hq : 0 < q.2) : Red (mulP p q) := lowP_red (den_mul hp hq)
theorem lowP_le {a b : Int} (hb : b ≠ 0) : (lowP a b).1.natAbs ≤ a.natAbs ∧ (lowP a b).2.natAbs ≤ b.natAbs := by
  obtain ⟨s, s0, h1, h2, r⟩ := lowP_parts (a := a) hb
  have p : 1 ≤ s.natAbs := by omega
  have l : ∀ x : Int, x.natAbs ≤ (x * s).natAbs := fun x => by
    rw [Int.natAbs_mul]
    exact Nat.le_mul_of_pos_right _ p
  exact ⟨by conv => rhs; rw [← h1]
            exact l _, by conv => rhs; rw [← h2]
                          exact l _⟩
theorem lt_mul {i j : Int} {n m : Nat} (hi : i.natAbs < 2 ^ n) (hj : j.natAbs < 2 ^ m) : (i * j).natAbs < 2 ^ (n + m) := by
  rw [Int.natAbs_mul, Nat.pow_add]
  exact Nat.mul_lt_mul'' hi hj
theorem sumP_sz {p q : Int × Int} {n m : Nat} (hp : Sz n p) (hq : Sz m q) : Sz (n + m + 1) (sumP p q) := by
  have hd := den_mul hp.2.2 hq.2.2
  obtain ⟨l1, l2⟩ := lowP_le (a := p.1 * q.2 + q.1 * p.2) hd
  have a1 := lt_mul hp.1 hq.2.1
  have a2 := lt_mul hq.1 hp.2.1
  have a3 := lt_mul hp.2.1 hq.2.1
  have e : 2 ^ (n + m + 1) = 2 ^ (n + m) * 2 := Nat.pow_succ ..
  have e2 : m + n = n + m := Nat.add_comm ..
  rw [e2] at a2
  refine ⟨?_, ?_, (sumP_red hp.2.2 hq.2.2).1⟩
  · show (lowP _ _).1.natAbs < _
    have := Int.natAbs_add_le (p.1 * q.2) (q.1 * p.2)
    omega
  · show (lowP _ _).2.natAbs < _
    omega
theorem Sz.mono {p : Int × Int} {n m : Nat} (h : Sz n p) (l : n ≤ m) : Sz m p :=
  ⟨Nat.lt_of_lt_of_le h.1 (Nat.pow_le_pow_right (by decide) l), Nat.lt_of_lt_of_le h.2.1 (Nat.pow_le_pow_right (by decide) l), h.2.2⟩
end LW
namespace LW
open PySem PySem.Spec L2 DL
theorem iteD {p : Prop} [Decidable p] {A B : Prop} (a : p → A) (b : ¬ p → B) : if decide p = true then A else B := by
  by_cases h : p
  · rw [decide_eq_true h, if_pos rfl]; exact a h
  · rw [decide_eq_false h, if_neg Bool.false_ne_true]; exact b h
theorem seq_ref {M : Mm} {c : Addr} {xs : List D} (h : M c = some (.lst xs)) : seqD M (.ref c) = some xs := by simp only [seqD, h]
def HandOk (M : Mm) (h : Addr) : Prop := ∃ (c : Addr) (i r t : Int) (cells : List Int), M h = some (.lst [.ref c, .int i, .int r, .int t]) ∧ c ≠ h ∧ M c = some (.lst (cells.map D.int)) ∧ cells.length ≤ 63 ∧ 0 ≤ i ∧ i ≤ 63
def leX (h : Addr) (M M' : Mm) : Prop := (∀ a o, a ≠ h → M a = some o → M' a = some o) ∧ ∀ x xs, M h = some (.lst (x :: xs)) → ∃ ys, M' h = some (.lst (x :: ys))
theorem leX.refl {h : Addr} {M : Mm} : leX h M M := ⟨fun _ _ _ e => e, fun _ xs e => ⟨xs, e⟩⟩
theorem leX.trans {h : Addr} {M M1 M2 : Mm} (a : leX h M M1) (b : leX h M1 M2) : leX h M M2 := ⟨fun x o n e => b.1 x o n (a.1 x o n e), fun x xs e => by
  obtain ⟨ys, e⟩ := a.2 x xs e
  exact b.2 x ys e⟩
theorem leX.put {h : Addr} {M : Mm} {x : D} {xs ys : List D} (hM : M h = some (.lst (x :: xs))) : leX h M (M.put h (.lst (x :: ys))) := ⟨fun a u n e => by rw [Mm.put_ne n]; exact e, fun z zs e => by
  rw [hM] at e
  cases e
  exact ⟨ys, Mm.put_same⟩⟩
theorem put_put {M : Mm} {p : Addr} {a b : MO} : (M.put p a).put p b = M.put p b := by
  funext x
  unfold Mm.put
  split <;> rfl
theorem atI_get {α : Type} {xs : List α} {i : Int} {n : Nat} {x : α} (hi : i = (n : Int)) (h : xs[n]? = some x) : atI xs i = some x := by
  have hl : n < xs.length := by
    rcases Nat.lt_or_ge n xs.length with q | q
    · exact q
    · rw [List.getElem?_eq_none q] at h; cases h
  subst hi
  have e : ixN xs.length (n : Int) = some n := by
    unfold ixN
    rw [if_pos (by omega), if_pos (by omega)]
    simp
  unfold atI
  rw [e]
  exact h
theorem ixN_nat {n k : Nat} (h : k < n) : ixN n (k : Int) = some k := by
  unfold ixN
  rw [if_pos (by omega), if_pos (by omega)]
  simp
def sp_law_draw : DSp := fun ds M _ Q => ∃ (h : Addr) (k : Int), ds = [.ref h, .int k] ∧ HandOk M h ∧ 0 < k ∧ k.natAbs.log2 < 9000 ∧ ∀ (v : Int) M', 0 ≤ v → v < k → HandOk M' h → leX h M M' → Q (.int v) M'
theorem mix_call {Γ : Gm} (hΓ : Γ.gv 19 = .fn 2 sp_mix []) {n t : Int} {M : Mm} {E : EK} {Q : QD} (hn : n.natAbs < 2 ^ 64) (ht : t.natAbs < 2 ^ 64) (h : Q (.int (mixP n t)) M) : callD (Γ.gv 19) 2 [.int n, .int t] M E Q := by
  rw [hΓ]
  exact ⟨Nat.le_refl _, Nat.le_refl _, rfl, n, t, rfl, hn, ht, h⟩
theorem eqv_int (a b : Int) : PyData.eqv (PyData.int a) (PyData.int b) = decide (a = b) := by
  first | rfl | simp [PyData.eqv]
def d2 : Sms := (.cons (.setS (.var 0) (.int 3) (.op .Mod (.bi .int (.cons (.op .Add (.ix (.var 0) (.int 3)) (.int 1)) .nil)) (.int 2147483629))) (.cons (.ret (.op .Mod (.bi .int (.cons (.call 19 (.cons (.ix (.var 0) (.int 3)) (.cons (.ix (.var 0) (.int 1)) .nil))) .nil)) (.var 1))) .nil))
def d1 : Sms := (.cons (.ifs (.cmp .Gt (.ix (.var 0) (.int 2)) (.int 0)) (.cons (.set 3 (.ix (.var 0) (.int 2))) (.cons (.setS (.var 0) (.int 2) (.op .FloorDiv (.var 3) (.var 1))) (.cons (.ret (.op .Mod (.bi .int (.cons (.var 3) .nil)) (.var 1))) .nil))) .nil) d2)
def d0 : Sms := (.cons (.set 2 (.ix (.ix (.var 0) (.int 0)) (.ix (.var 0) (.int 1)))) (.cons (.setS (.var 0) (.int 1) (.op .Add (.ix (.var 0) (.int 1)) (.int 1))) (.cons (.ifs (.cmp .Lt (.var 2) (.op .Pow (.int 10) (.int 18))) (.cons (.ret (.op .Mod (.bi .int (.cons (.call 19 (.cons (.op .Mod (.bi .int (.cons (.var 2) .nil)) (.int 2147483647)) (.cons (.ix (.var 0) (.int 1)) .nil))) .nil)) (.var 1))) .nil) .nil) (.cons (.setS (.var 0) (.int 2) (.var 2)) .nil))))
section
variable {Γ : Gm} (hΓ : Γ.gv 19 = .fn 2 sp_mix [])
include hΓ
theorem ev_d2 {M : Mm} {h c : Addr} {k i r t : Int} {x y : Option D} {K : KE} (hk : 0 < k) (hM : M h = some (.lst [.ref c, .int i, .int r, .int t])) (hi : 0 ≤ i ∧ i ≤ 63)
    (q : ∀ v t', 0 ≤ v → v < k → K.rt (.int v) (M.put h (.lst [.ref c, .int i, .int r, .int t']))) : evSs Γ d2 [some (.ref h), some (.int k), x, y] M K := by
  refine ⟨_, .inl hM, .int t, rfl, by decide, _, 3, hM, rfl, ?_⟩
  refine ⟨_, .inl Mm.put_same, _, rfl, _, .inl Mm.put_same, .int i, rfl, ?_⟩
  refine mix_call hΓ (mod_sm (by decide) (by decide)) (by omega) ⟨hk, ?_⟩
  exact q _ _ (Int.emod_nonneg _ (by omega)) (Int.emod_lt_of_pos _ hk)
theorem ev_d1 {M : Mm} {h c : Addr} {k i r t : Int} {x : Option D} {K : KE} (hk : 0 < k) (hb : k.natAbs.log2 < 9000) (hM : M h = some (.lst [.ref c, .int i, .int r, .int t])) (hi : 0 ≤ i ∧ i ≤ 63)
    (q : ∀ v r' t', 0 ≤ v → v < k → K.rt (.int v) (M.put h (.lst [.ref c, .int i, .int r', .int t']))) : evSs Γ d1 [some (.ref h), some (.int k), x, none] M K := by
  refine ⟨_, .inl hM, .int r, rfl, _, rfl, ?_⟩
  by_cases z : 0 < r
  · rw [decide_eq_true z]
    refine iteT ?_
    refine ⟨_, .inl hM, .int r, rfl, ⟨by omega, hb⟩, _, 2, hM, rfl, hk, ?_⟩
    exact q _ _ _ (Int.emod_nonneg _ (by omega)) (Int.emod_lt_of_pos _ hk)
  · rw [decide_eq_false z]
    refine iteF ?_
    exact ev_d2 hΓ hk hM hi fun v t' h1 h2 => q v r t' h1 h2
end
def m_law_draw : Sms := (.cons (.ifs (.bop .And (.cons (.cmp .Eq (.ix (.var 0) (.int 2)) (.int 0)) (.cons (.cmp .Lt (.ix (.var 0) (.int 1)) (.bi .len (.cons (.ix (.var 0) (.int 0)) .nil))) .nil))) d0 .nil) d1)
theorem pure_law_draw {Γ : Gm} (hΓ : Γ.gv 19 = .fn 2 sp_mix []) : ∀ ds M E Q, ds.length = 2 → sp_law_draw ds M E Q → bodyD Γ 4 m_law_draw ds M E Q := by
  rintro ds M E Q hl ⟨h, k, rfl, ⟨c, i, r, t, cells, hM, hc, hC, hn, hi⟩, hk, hb, q⟩
  have fin : ∀ (i' : Int), 0 ≤ i' ∧ i' ≤ 63 → ∀ M1 : Mm, leX h M M1 → ∀ (v r' t' : Int), 0 ≤ v → v < k → Q (.int v) (M1.put h (.lst [.ref c, .int i', .int r', .int t'])) := fun i' hi' M1 l v r' t' h1 h2 => by
    obtain ⟨ys, e1⟩ := l.2 _ _ hM
    refine q v _ h1 h2 ⟨c, i', r', t', cells, Mm.put_same, hc, ?_, hn, hi'⟩ (l.trans (leX.put e1))
    rw [Mm.put_ne hc]
    exact l.1 _ _ hc hC
  refine ⟨_, .inl hM, .int r, rfl, _, rfl, ?_⟩
  rw [eqv_int]
  by_cases z : r = 0
  · rw [decide_eq_true z]
    refine ⟨_, .inl hM, .int i, rfl, _, .inl hM, .ref c, rfl, cells.map D.int, ?_, _, rfl, ?_⟩
    · exact seq_ref hC
    rw [List.length_map]
    by_cases y : i < (cells.length : Int)
    · rw [decide_eq_true y]
      refine iteT ?_
      obtain ⟨n, rfl⟩ := Int.eq_ofNat_of_zero_le hi.1
      have hnl : n < cells.length := by omega
      have eg : (cells.map D.int)[n]? = some (.int cells[n]) := by
        rw [List.getElem?_map, List.getElem?_eq_getElem hnl]; rfl
      refine ⟨_, .inl hM, .ref c, rfl, _, .inl hM, .int (n : Int), rfl, _, .inl hC, .int cells[n], atI_get rfl eg, ?_⟩
      refine ⟨_, .inl hM, .int (n : Int), rfl, _, 1, hM, rfl, ?_⟩
      refine ⟨by refine ⟨by decide, by decide, by decide⟩, _, rfl, ?_⟩
      have hi1 : (0 : Int) ≤ (n : Int) + 1 ∧ (n : Int) + 1 ≤ 63 := by omega
      refine iteD (fun _ => ?_) (fun _ => ?_)
      · refine ⟨by decide, _, .inl Mm.put_same, .int ((n : Int) + 1), rfl, ?_⟩
        refine mix_call hΓ (mod_sm (by decide) (by decide)) (by omega) ⟨hk, ?_⟩
        exact fin _ hi1 M leX.refl _ _ _ (Int.emod_nonneg _ (by omega)) (Int.emod_lt_of_pos _ hk)
      · refine ⟨_, 2, Mm.put_same, rfl, ?_⟩
        refine ev_d1 hΓ (c := c) (i := (n : Int) + 1) (r := cells[n]) (t := t) hk hb Mm.put_same hi1 fun v r' t' h1 h2 => ?_
        exact fin _ hi1 _ (leX.trans (leX.put hM) (leX.put Mm.put_same)) v r' t' h1 h2
    · rw [decide_eq_false y]
      refine iteF ?_
      exact ev_d1 hΓ hk hb hM hi fun v r' t' h1 h2 => fin i hi M leX.refl v r' t' h1 h2
  · rw [decide_eq_false z]
    refine iteF ?_
    exact ev_d1 hΓ hk hb hM hi fun v r' t' h1 h2 => fin i hi M leX.refl v r' t' h1 h2
theorem compL_map {G : Mm → Prop} {p : Addr} {step : D → Mm → (Option D → Mm → Prop) → Prop} {M : Mm} (f : D → D) (hG : ∀ acc, G (M.put p (.lst acc))) : ∀ (I acc : List D) (Q : Mm → Prop), (∀ d ∈ I, ∀ acc (K : Option D → Mm → Prop), K (some (f d)) (M.put p (.lst acc)) → step d (M.put p (.lst acc)) K) → acc.length + I.length ≤ 100000 → Q (M.put p (.lst (acc ++ I.map f))) → compL G p step I acc (M.put p (.lst acc)) Q
  | [], acc, Q, _, _, q => ⟨hG acc, Mm.put_same, by simpa using q⟩
  | d :: I, acc, Q, hs, hl, q => by
    refine ⟨hG acc, hs d List.mem_cons_self acc _ ⟨Mm.put_same, ?_, ?_⟩⟩
    · have : sizeLine ≥ 100000 := by rw [sizeLine_eq]; decide
      simp at hl
      omega
    · rw [put_put]
      refine compL_map f hG I (acc ++ [f d]) Q (fun e he => hs e (List.mem_cons_of_mem _ he)) ?_ (by simpa using q)
      simp at hl ⊢
      omega
end LW
namespace LW
open PySem PySem.Spec L2 DL
theorem log2_lt {x n : Nat} (h : x < 2 ^ n) (h0 : 0 < n) : x.log2 < n := by
  by_cases e : x = 0
  · subst e; simpa using h0
  · exact (Nat.log2_lt e).mpr h
def b_hand : Sms := (.cons (.set 1 (.op .Mod (.bi .int (.cons (.op .Add (.op .Mult (.var 1) (.int 31)) (.op .Mult (.bi .int (.cons (.var 3) .nil)) (.op .Add (.var 2) (.int 7)))) .nil)) (.int 2147483629))) .nil)
theorem hand_turns {Γ : Gm} {M : Mm} {G : Mm → Prop} (hG : G M) {K : KE} {d : Option D} : ∀ (ns : List Int) (k : Nat) (t : Int) (x y : Option D), (∀ z ∈ ns, z.natAbs.log2 < 2000000) → k + ns.length ≤ 63 → 0 ≤ t → t < 2 ^ 31 → (∀ t x y, K.nx [d, some (.int t), x, y] M) → forD G (.tup (.cons (.nm 2) (.cons (.nm 3) .nil))) (evSs Γ b_hand) K (enmD k (ns.map D.int)) [d, some (.int t), x, y] M
  | [], k, t, x, y, _, _, _, _, q => ⟨hG, q t x y⟩
  | z :: ns, k, t, x, y, hz, hl, h0, h1, q => by
    have hz0 := hz z List.mem_cons_self
    have hk : (((k : Nat) : Int) + 7).natAbs.log2 < 64 := log2_lt (by simp at hl; omega) (by decide)
    have ht : MulB t 31 := mulB_of (a := 64) (b := 64) (by omega) (by decide) (by decide) (by decide) (by decide)
    refine ⟨hG, ht, ?_⟩
    refine ⟨by unfold MulB; omega, by decide, ?_⟩
    refine hand_turns hG ns (k + 1) _ _ _ (fun w hw => hz w (List.mem_cons_of_mem _ hw)) (by simp at hl ⊢; omega) (Int.emod_nonneg _ (by decide)) ?_ q
    have := Int.emod_lt_of_pos (t * 31 + z * ((k : Int) + 7)) (show (0 : Int) < 2147483629 by decide)
    omega
def sp_law_hand : DSp := fun ds M _ Q => ∃ (a : Addr) (ns : List Int), ds = [.ref a] ∧ ns.length ≤ 63 ∧ (∀ z ∈ ns, z.natAbs.log2 < 2000000) ∧ (M a = some (.lst (ns.map D.int)) ∨ M a = some (.rol (ns.map D.int))) ∧ ∀ h M', HandOk M' h → Q (.ref h) M'
def absD : D → D
  | .int i => .int (if i < 0 then -i else i)
  | d => d
def m_law_hand : Sms := (.cons (.set 1 (.int 0)) (.cons (.fo (.tup (.cons (.nm 2) (.cons (.nm 3) .nil))) (.enm (.var 0)) b_hand) (.cons (.ret (.lst (.cons (.lc [3] (.nm 3) (.seq (.var 0)) .none (.bi .abs (.cons (.bi .int (.cons (.var 3) .nil)) .nil))) (.cons (.int 0) (.cons (.int 0) (.cons (.var 1) .nil)))))) .nil)))
theorem pure_law_hand {Γ : Gm} : ∀ ds M E Q, ds.length = 1 → sp_law_hand ds M E Q → bodyD Γ 4 m_law_hand ds M E Q := by
  rintro ds M E Q hl ⟨a, ns, rfl, hn, hz, hM, q⟩
  refine ⟨ns.map D.int, hM, ?_⟩
  refine hand_turns (G := fun M => M a = some (.lst (ns.map D.int)) ∨ M a = some (.rol (ns.map D.int))) hM ns 0 0 none none hz (by omega) (by decide) (by decide) fun t x y => ?_
  refine ⟨ns.map D.int, hM, fun p np => ?_⟩
  have hpa : a ≠ p := fun e => by
    subst e
    rcases hM with e | e <;> rw [np] at e <;> cases e
  refine compL_map (M := M) absD (fun acc => ?_) (ns.map D.int) [] _ (fun d hd acc K hK => ?_) (by simp; omega) ?_
  · rw [Mm.put_ne hpa]; exact hM
  · obtain ⟨i, hi, rfl⟩ := List.mem_map.mp hd
    exact hK
  · refine ⟨by rw [sizeLine_eq]; show 4 ≤ _; decide, fun h nh => ?_⟩
    have hhp : p ≠ h := fun e => by subst e; rw [Mm.put_same] at nh; cases nh
    refine q h _ ⟨p, 0, 0, t, ns.map fun i => if i < 0 then -i else i, Mm.put_same, hhp, ?_, by simpa using hn, by decide, by decide⟩
    rw [Mm.put_ne hhp, Mm.put_same]
    congr 2
    rw [List.nil_append, List.map_map, List.map_map]
    rfl
end LW
namespace LW
open PySem PySem.Spec L2 DL
def whP : D → D → D → Bool
  | .int i, l, h => (match l with | .int j => decide (j ≤ i) | _ => true) && (match h with | .int j => decide (i ≤ j) | _ => true)
  | _, _, _ => false
def Bnd (d : D) : Prop := d = .non ∨ ∃ i, d = .int i
def Tyd (M : Mm) (d : D) : Prop := ∃ t, Ty.of M d = some t
theorem ty_ref {M : Mm} {a : Addr} {t : Ty} (h : Ty.of M (.ref a) = some t) : t = .list := by
  simp only [Ty.of] at h
  cases hm : M a with
  | none => rw [hm] at h; cases h
  | some o => rw [hm] at h; cases o <;> first | (cases h; rfl) | cases h
theorem ty_int {M : Mm} {d : D} {t : Ty} (h : Ty.of M d = some t) : (∃ i, d = .int i) ∨ (∃ b, d = .bl b) ∨ (t ≠ .int ∧ t ≠ .bool ∧ ∀ l h, whP d l h = false) := by
  cases d with
  | int i => exact .inl ⟨i, rfl⟩
  | bl b => exact .inr (.inl ⟨b, rfl⟩)
  | non => cases h; exact .inr (.inr ⟨by decide, by decide, fun _ _ => rfl⟩)
  | str x => cases h; exact .inr (.inr ⟨by decide, by decide, fun _ _ => rfl⟩)
  | tup x => cases h; exact .inr (.inr ⟨by decide, by decide, fun _ _ => rfl⟩)
  | ty x => cases h
  | ref a =>
    cases ty_ref h
    exact .inr (.inr ⟨by decide, by decide, fun _ _ => rfl⟩)
theorem isi_int {M : Mm} {d : D} {t : Ty} (h : Ty.of M d = some t) : isiD M d (.ty "int") = some (t.sub .int) := by
  unfold isiD
  simp only [h]
  rfl
theorem isi_bool {M : Mm} {d : D} {t : Ty} (h : Ty.of M d = some t) : isiD M d (.ty "bool") = some (t.sub .bool) := by
  unfold isiD
  simp only [h]
  rfl
theorem isi_tuple {M : Mm} {d : D} {t : Ty} (h : Ty.of M d = some t) : isiD M d (.ty "tuple") = some (t.sub .tuple) := by
  unfold isiD
  simp only [h]
  rfl
def sp_is_whole : DSp := fun ds M _ Q => ∃ d l h, ds = [d, l, h] ∧ Tyd M d ∧ Bnd l ∧ Bnd h ∧ Q (.bl (whP d l h)) M
theorem pure_is_whole {Γ : Gm} : ∀ ds M E Q, ds.length = 3 → sp_is_whole ds M E Q → bodyD Γ 3 m_is_whole ds M E Q := by
  rintro ds M E Q hl ⟨d, l, h, rfl, ⟨t, ht⟩, bl, bh, q⟩
  refine ⟨_, isi_int ht, _, rfl, ?_⟩
  rcases ty_int ht with ⟨i, rfl⟩ | ⟨b, rfl⟩ | ⟨n1, n2, hw⟩
  · cases ht
    refine ⟨_, isi_bool (M := M) (d := .int i) rfl, _, rfl, ?_⟩
    refine iteF ?_
    rcases bl with rfl | ⟨j, rfl⟩
    · refine ⟨_, rfl, ?_⟩
      rcases bh with rfl | ⟨k, rfl⟩
      · exact ⟨_, rfl, q⟩
      · refine ⟨_, rfl, ⟨_, rfl, ?_⟩⟩
        simpa [whP] using q
    · refine ⟨_, rfl, ⟨_, rfl, ?_⟩⟩
      by_cases c : j ≤ i
      · rw [decide_eq_true c]
        have e : ∀ h, whP (.int i) (.int j) h = (match h with | .int j => decide (i ≤ j) | _ => true) := fun h => by simp [whP, c]
        rw [e] at q
        rcases bh with rfl | ⟨k, rfl⟩
        · exact ⟨_, rfl, q⟩
        · exact ⟨_, rfl, ⟨_, rfl, q⟩⟩
      · rw [decide_eq_false c]
        have e : ∀ h, whP (.int i) (.int j) h = false := fun h => by simp [whP, c]
        rw [e] at q
        exact q
  · cases ht
    refine ⟨_, isi_bool (M := M) (d := .bl b) rfl, _, rfl, ?_⟩
    refine iteT ?_
    exact q
  · have e1 : t.sub .int = false := by cases t <;> first | rfl | exact absurd rfl n1 | exact absurd rfl n2
    rw [e1]
    refine iteT ?_
    rw [hw] at q
    exact q
theorem whole_call {Γ : Gm} (hΓ : Γ.gv 4 = .fn 3 sp_is_whole [.non, .non]) {d : D} {M : Mm} {E : EK} {Q : QD} (ht : Tyd M d) (q : Q (.bl (whP d .non .non)) M) : callD (Γ.gv 4) 1 [d] M E Q := by
  rw [hΓ]
  exact ⟨by decide, by decide, rfl, d, .non, .non, rfl, ht, .inl rfl, .inl rfl, q⟩
theorem whole_call2 {Γ : Gm} (hΓ : Γ.gv 4 = .fn 3 sp_is_whole [.non, .non]) {d l : D} {M : Mm} {E : EK} {Q : QD} (ht : Tyd M d) (hl : Bnd l) (q : Q (.bl (whP d l .non)) M) : callD (Γ.gv 4) 2 [d, l] M E Q := by
  rw [hΓ]
  exact ⟨by decide, by decide, rfl, d, l, .non, rfl, ht, hl, .inl rfl, q⟩
def gcd1 : D → D → Bool
  | .int a, .int b => decide (((Nat.gcd a.natAbs b.natAbs : Nat) : Int) = 1)
  | _, _ => false
def ratP : D → Bool
  | .tup [x, y] => whP x .non .non && (whP y (.int 1) .non && gcd1 x y)
  | _ => false
def sp_is_ratio : DSp := fun ds M _ Q => ∃ d, ds = [d] ∧ Tyd M d ∧ (∀ x y, d = .tup [x, y] → Tyd M x ∧ Tyd M y) ∧ Q (.bl (ratP d)) M
theorem wh_int {x l h : D} (e : whP x l h = true) : ∃ i, x = .int i := by
  cases x <;> first | exact ⟨_, rfl⟩ | (simp [whP] at e)
theorem pure_is_ratio {Γ : Gm} (hΓ : Γ.gv 4 = .fn 3 sp_is_whole [.non, .non]) : ∀ ds M E Q, ds.length = 1 → sp_is_ratio ds M E Q → bodyD Γ 1 m_is_ratio ds M E Q := by
  rintro ds M E Q hl ⟨d, rfl, ⟨t, ht⟩, hxy, q⟩
  refine ⟨_, isi_tuple ht, _, rfl, ?_⟩
  by_cases c : t = .tuple
  · subst c
    have hd : ∃ xs, d = .tup xs := by
      cases d with
      | tup xs => exact ⟨xs, rfl⟩
      | ref a => cases ty_ref ht
      | _ => cases ht
    obtain ⟨xs, rfl⟩ := hd
    refine ⟨xs, rfl, _, rfl, ?_⟩
    rw [eqv_int]
    by_cases c2 : xs.length = 2
    · rw [decide_eq_true (show (xs.length : Int) = 2 by omega)]
      refine iteF ?_
      match xs, c2 with
      | [x, y], _ =>
        obtain ⟨tx, ty⟩ := hxy x y rfl
        refine ⟨x, rfl, whole_call hΓ tx ?_⟩
        have e : ratP (.tup [x, y]) = (whP x .non .non && (whP y (.int 1) .non && gcd1 x y)) := rfl
        rw [e] at q
        cases hx : whP x .non .non with
        | false => rw [hx] at q; exact q
        | true =>
          rw [hx, Bool.true_and] at q
          refine ⟨y, rfl, whole_call2 hΓ ty (.inr ⟨1, rfl⟩) ?_⟩
          cases hy : whP y (.int 1) .non with
          | false => rw [hy] at q; exact q
          | true =>
            rw [hy, Bool.true_and] at q
            obtain ⟨a, rfl⟩ := wh_int hx
            obtain ⟨b, rfl⟩ := wh_int hy
            refine ⟨.int a, rfl, .int b, rfl, _, rfl, ?_⟩
            rw [eqv_int]
            exact q
    · rw [decide_eq_false (show ¬ (xs.length : Int) = 2 by omega)]
      refine iteT ?_
      have e : ratP (.tup xs) = false := by
        match xs, c2 with
        | [], _ => rfl
        | [_], _ => rfl
        | [_, _], h => exact absurd rfl h
        | _ :: _ :: _ :: _, _ => rfl
      rw [e] at q
      exact q
  · have e1 : t.sub .tuple = false := by cases t <;> first | rfl | exact absurd rfl c
    rw [e1]
    refine iteT ?_
    have e : ratP d = false := by
      cases d with
      | tup xs => cases ht; exact absurd rfl c
      | _ => rfl
    rw [e] at q
    exact q
end LW
namespace LW
open PySem PySem.Spec L2 DL
def tx (i : Int) : Str := Str.ofString (toString i)
end LW
namespace VL
open PySem PySem.Spec L2 DL LW
inductive U where
  | non | bl (b : Bool) | int (i : Int) | str (x : Str) | tup (us : List U) | lst (us : List U)
  | obj (g : Nat) (ks : List Str) (us : List U) | ty (n : String) | hand
structure Hc where
  h : Addr
  c : Addr
structure Pl where
  cl : Nat → Addr
  hd : Option Hc
mutual
inductive RU (P : Pl) (N : Mm) : U → D → Prop
  | non : RU P N .non .non
  | bl (b : Bool) : RU P N (.bl b) (.bl b)
  | int (i : Int) : RU P N (.int i) (.int i)
  | str (x : Str) : RU P N (.str x) (.str x)
  | ty (n : String) : RU P N (.ty n) (.ty n)
  | tup {us : List U} {ds : List D} : RUs P N us ds → RU P N (.tup us) (.tup ds)
  | lst {a : Addr} {us : List U} {ds : List D} : N a = some (.lst ds) → RUs P N us ds → RU P N (.lst us) (.ref a)
  | obj {g : Nat} {a : Addr} {ks : List Str} {us : List U} {ds : List D} : N a = some (.ins (P.cl g) (ks.zip ds)) → ks.length = us.length → RUs P N us ds → RU P N (.obj g ks us) (.ref a)
  | hand {q : Hc} : P.hd = some q → RU P N .hand (.ref q.h)
inductive RUs (P : Pl) (N : Mm) : List U → List D → Prop
  | nil : RUs P N [] []
  | cons {u : U} {us : List U} {d : D} {ds : List D} : RU P N u d → RUs P N us ds → RUs P N (u :: us) (d :: ds)
end
mutual
theorem RU.mono {P : Pl} {N N' : Mm} (e : N.le N') : ∀ {u : U} {d : D}, RU P N u d → RU P N' u d
  | _, _, .non => .non
  | _, _, .bl b => .bl b
  | _, _, .int i => .int i
  | _, _, .str x => .str x
  | _, _, .ty n => .ty n
  | _, _, .tup r => .tup (RUs.mono e r)
  | _, _, .lst h r => .lst (e _ _ h) (RUs.mono e r)
  | _, _, .obj h l r => .obj (e _ _ h) l (RUs.mono e r)
  | _, _, .hand h => .hand h
theorem RUs.mono {P : Pl} {N N' : Mm} (e : N.le N') : ∀ {us : List U} {ds : List D}, RUs P N us ds → RUs P N' us ds
  | _, _, .nil => .nil
  | _, _, .cons h r => .cons (RU.mono e h) (RUs.mono e r)
end
section
variable {P : Pl} {N : Mm}
theorem RUs.length : ∀ {us : List U} {ds : List D}, RUs P N us ds → us.length = ds.length
  | _, _, .nil => rfl
  | _, _, .cons _ r => by simp [RUs.length r]
theorem RUs.get : ∀ {us : List U} {ds : List D} {i : Nat} {u : U}, RUs P N us ds → us[i]? = some u → ∃ d, ds[i]? = some d ∧ RU P N u d
  | _, _, _, _, .nil, e => by simp at e
  | _, _, 0, _, .cons r _, e => by simp at e; subst e; exact ⟨_, rfl, r⟩
  | _, _, i + 1, u, .cons _ t, e => by
    obtain ⟨d, h1, h2⟩ := RUs.get (i := i) (u := u) t (by simpa using e)
    exact ⟨d, by simpa using h1, h2⟩
theorem RUs.append : ∀ {us vs : List U} {ds es : List D}, RUs P N us ds → RUs P N vs es → RUs P N (us ++ vs) (ds ++ es)
  | _, _, _, _, .nil, s => s
  | _, _, _, _, .cons r t, s => .cons r (RUs.append t s)
theorem RUs.take : ∀ {us : List U} {ds : List D} (n : Nat), RUs P N us ds → RUs P N (us.take n) (ds.take n)
  | _, _, 0, _ => .nil
  | _, _, _ + 1, .nil => .nil
  | _, _, n + 1, .cons r t => .cons r (RUs.take n t)
theorem RUs.drop : ∀ {us : List U} {ds : List D} (n : Nat), RUs P N us ds → RUs P N (us.drop n) (ds.drop n)
  | _, _, 0, r => r
  | _, _, _ + 1, .nil => .nil
  | _, _, n + 1, .cons _ t => RUs.drop n t
theorem RUs.set {u : U} {d : D} (r : RU P N u d) : ∀ {us : List U} {ds : List D} (i : Nat), RUs P N us ds → RUs P N (us.set i u) (ds.set i d)
  | _, _, _, .nil => .nil
  | _, _, 0, .cons _ t => .cons r t
  | _, _, i + 1, .cons q t => .cons q (RUs.set r i t)
theorem RUs.rep {us : List U} {ds : List D} (r : RUs P N us ds) : ∀ n, RUs P N (List.replicate n us).flatten (List.replicate n ds).flatten
  | 0 => .nil
  | n + 1 => by
    rw [List.replicate_succ, List.replicate_succ, List.flatten_cons, List.flatten_cons]
    exact r.append (RUs.rep r n)
theorem RUs.rev : ∀ {us : List U} {ds : List D}, RUs P N us ds → RUs P N us.reverse ds.reverse
  | _, _, .nil => .nil
  | _, _, .cons r t => by
    rw [List.reverse_cons, List.reverse_cons]
    exact (RUs.rev t).append (.cons r .nil)
theorem RUs.at_ {us : List U} {ds : List D} {i : Int} {u : U} (r : RUs P N us ds) (h : atI us i = some u) : ∃ d, atI ds i = some d ∧ RU P N u d := by
  unfold atI at h ⊢
  rw [← r.length]
  cases e : ixN us.length i with
  | none => rw [e] at h; cases h
  | some j =>
    rw [e] at h
    exact r.get h
theorem RUs.two {x y : U} {ds : List D} (r : RUs P N [x, y] ds) : ∃ d e, ds = [d, e] ∧ RU P N x d ∧ RU P N y e := by
  cases r with
  | cons a r => cases r with
    | cons b r => cases r; exact ⟨_, _, rfl, a, b⟩
theorem RUs.one {x : U} {ds : List D} (r : RUs P N [x] ds) : ∃ d, ds = [d] ∧ RU P N x d := by
  cases r with
  | cons a r => cases r; exact ⟨_, rfl, a⟩
end
def HandAt (M : Mm) (q : Hc) : Prop := ∃ (i r t : Int) (cells : List Int), M q.h = some (.lst [.ref q.c, .int i, .int r, .int t]) ∧ q.c ≠ q.h ∧ M q.c = some (.lst (cells.map D.int)) ∧ cells.length ≤ 63 ∧ 0 ≤ i ∧ i ≤ 63
def Ext (P : Pl) (M M' : Mm) : Prop := ∀ a o, (∀ q, P.hd = some q → a ≠ q.h) → M a = some o → M' a = some o
structure Wd (P : Pl) (N M : Mm) : Prop where
  le : N.le M
  w : ∀ q, P.hd = some q → HandAt M q
  nh : ∀ q, P.hd = some q → N q.h = none ∧ N q.c = none
structure Stp (P : Pl) (N M N' M' : Mm) : Prop where
  le : N.le N'
  ext : Ext P M M'
  fr : ∀ a, N a = none → M a ≠ none → N' a = none
  wd : Wd P N' M'
theorem Ext.refl {P : Pl} {M : Mm} : Ext P M M := fun _ _ _ h => h
theorem Ext.trans {P : Pl} {M M1 M2 : Mm} (a : Ext P M M1) (b : Ext P M1 M2) : Ext P M M2 := fun x o h e => b x o h (a x o h e)
theorem Ext.of {P : Pl} {M M' : Mm} (l : M.le M') : Ext P M M' := fun a o _ e => l a o e
theorem Stp.refl {P : Pl} {N M : Mm} (w : Wd P N M) : Stp P N M N M := ⟨Mm.le_refl _, Ext.refl, fun _ h _ => h, w⟩
theorem Stp.trans {P : Pl} {N M N1 M1 N2 M2 : Mm} (a : Stp P N M N1 M1) (b : Stp P N1 M1 N2 M2) : Stp P N M N2 M2 := ⟨Mm.le_trans a.le b.le, a.ext.trans b.ext, fun x h1 h2 => by
  by_cases q : ∀ q, P.hd = some q → x ≠ q.h
  · refine b.fr x (a.fr x h1 h2) fun e => ?_
    rcases z : M x with _ | o
    · exact h2 z
    · rw [a.ext x o q z] at e; cases e
  · have : ∃ r, P.hd = some r ∧ x = r.h := Classical.byContradiction fun z => q fun r e1 e2 => z ⟨r, e1, e2⟩
    obtain ⟨r, e1, rfl⟩ := this
    exact (b.wd.nh r e1).1, b.wd⟩
theorem HandAt.le {M M' : Mm} {q : Hc} (l : M.le M') (h : HandAt M q) : HandAt M' q := by
  obtain ⟨i, r, t, cells, h1, h2, h3, h4⟩ := h
  exact ⟨i, r, t, cells, l _ _ h1, h2, l _ _ h3, h4⟩
theorem HandAt.ne {M : Mm} {q : Hc} {p : Addr} (h : HandAt M q) (hp : M p = none) : p ≠ q.h ∧ p ≠ q.c := by
  obtain ⟨i, r, t, cells, h1, h2, h3, h4⟩ := h
  exact ⟨fun e => (by rw [e, h1] at hp; cases hp), fun e => (by rw [e, h3] at hp; cases hp)⟩
theorem HandAt.put {M : Mm} {q : Hc} {p : Addr} {o : MO} (h : HandAt M q) (hp : p ≠ q.h ∧ p ≠ q.c) : HandAt (M.put p o) q := by
  obtain ⟨i, r, t, cells, h1, h2, h3, h4⟩ := h
  exact ⟨i, r, t, cells, by rw [Mm.put_ne (Ne.symm hp.1)]; exact h1, h2, by rw [Mm.put_ne (Ne.symm hp.2)]; exact h3, h4⟩
theorem le_put2 {N M : Mm} {p : Addr} {o : MO} (l : N.le M) : (N.put p o).le (M.put p o) := fun a u e => by
  by_cases h : a = p
  · subst h; rw [Mm.put_same] at e ⊢; exact e
  · rw [Mm.put_ne h] at e ⊢; exact l _ _ e
theorem le_none {N M : Mm} {p : Addr} (l : N.le M) (h : M p = none) : N p = none := by
  rcases q : N p with _ | o
  · rfl
  · rw [l _ _ q] at h; cases h
theorem Wd.new {P : Pl} {N M : Mm} (w : Wd P N M) {p : Addr} (hp : M p = none) (o : MO) : Stp P N M (N.put p o) (M.put p o) := by
  refine ⟨Mm.le_new (le_none w.le hp), Ext.of (Mm.le_new hp), fun a h1 h2 => by rw [Mm.put_ne (fun e => h2 (by rw [e]; exact hp))]; exact h1, le_put2 w.le, fun q e => (w.w q e).le (Mm.le_new hp), fun q e => ?_⟩
  have n := (w.w q e).ne hp
  rw [Mm.put_ne (Ne.symm n.1), Mm.put_ne (Ne.symm n.2)]
  exact w.nh q e
theorem Wd.own {P : Pl} {N M : Mm} (w : Wd P N M) {p : Addr} (hp : M p = none) (o : MO) : Stp P N M N (M.put p o) :=
  ⟨Mm.le_refl _, Ext.of (Mm.le_new hp), fun _ h _ => h, Mm.le_trans w.le (Mm.le_new hp), fun q e => (w.w q e).le (Mm.le_new hp), w.nh⟩
def seqU : U → Option (List U)
  | .tup us => some us
  | .lst us => some us
  | _ => none
def uPys (f : U → Option PyData) : List U → Option (List PyData)
  | [] => some []
  | u :: us => match f u, uPys f us with
    | some p, some ps => some (p :: ps)
    | _, _ => none
def uPy : Nat → U → Option PyData
  | 0, _ => none
  | n + 1, u => match u with
    | .non => some .none
    | .bl b => some (.bool b)
    | .int i => some (.int i)
    | .str x => if PySem.PyData.strOk x then some (.str x) else none
    | .tup us => match uPys (uPy n) us with | some ps => some (.tuple ps) | none => none
    | .lst us => match uPys (uPy n) us with | some ps => some (.list ps) | none => none
    | _ => none
def U.isNon : U → Bool
  | .non => true
  | _ => false
def U.sc : U → Option D
  | .non => some .non
  | .bl b => some (.bl b)
  | .int i => some (.int i)
  | .str x => some (.str x)
  | _ => none
def scs : List U → Option (List D)
  | [] => some []
  | u :: us => match u.sc, scs us with
    | some d, some ds => some (d :: ds)
    | _, _ => none
def inU (x y : U) : Option Bool := match seqU y with
  | some us => match x.sc, scs us with
    | some d, some ds => some (inV d.toV (ds.map D.toV))
    | _, _ => none
  | none => none
def eqU (x y : U) : Option Bool := match uPy 9 x, uPy 9 y with
  | some p, some q => some (PyData.eqv p q)
  | _, _ => none
def isBU : U → Bool → Bool
  | .bl a, b => decide (a = b)
  | _, _ => false
def cmpU : CmpOp → U → U → Option Bool
  | .Lt, .int i, .int j => some (decide (i < j))
  | .LtE, .int i, .int j => some (decide (i ≤ j))
  | .Gt, .int i, .int j => some (decide (j < i))
  | .GtE, .int i, .int j => some (decide (j ≤ i))
  | .Eq, x, y => eqU x y
  | .NotEq, x, y => (eqU x y).map (!·)
  | .Is, x, .non => some x.isNon
  | .IsNot, x, .non => some (!x.isNon)
  | .Is, x, .bl b => some (isBU x b)
  | .IsNot, x, .bl b => some (!isBU x b)
  | .In, x, y => inU x y
  | .NotIn, x, y => (inU x y).map (!·)
  | _, _, _ => none
abbrev QU := U → Prop
def opU (o : Operator) (x y : U) (Q : QU) : Prop := match o, x, y with
  | .Add, .int i, .int j => Q (.int (i + j))
  | .Sub, .int i, .int j => Q (.int (i - j))
  | .Mult, .int i, .int j => MulB i j ∧ Q (.int (i * j))
  | .FloorDiv, .int i, .int j => DivB j ∧ Q (.int (i.fdiv j))
  | .Mod, .int i, .int j => 0 < j ∧ Q (.int (i % j))
  | .Pow, .int i, .int j => CPow i j ∧ Q (.int (i ^ j.toNat))
  | .Add, .str i, .str j => i.length + j.length ≤ sizeLine ∧ Q (.str (i ++ j))
  | .Add, .tup xs, .tup ys => xs.length + ys.length ≤ sizeLine ∧ Q (.tup (xs ++ ys))
  | .Add, .lst xs, .lst ys => xs.length + ys.length ≤ sizeLine ∧ Q (.lst (xs ++ ys))
  | .Mult, .lst xs, .int k => 0 ≤ k ∧ k < 2 ^ 62 ∧ xs.length * k.toNat ≤ sizeLine ∧ Q (.lst (List.replicate k.toNat xs).flatten)
  | _, _, _ => False
def ixU (x y : U) (Q : QU) : Prop := match x, y with
  | .tup us, .int i => ∃ u, atI us i = some u ∧ Q u
  | .lst us, .int i => ∃ u, atI us i = some u ∧ Q u
  | .str z, .int i => z.length ≤ sizeLine ∧ ∃ c, atI z.cps.toList i = some c ∧ Q (.str ⟨#[c]⟩)
  | _, _ => False
def cutU (xs : List U) (lo hi : Option Int) : List U := (xs.drop (HT.sIx xs.length 0 lo)).take (HT.sIx xs.length xs.length hi - HT.sIx xs.length 0 lo)
def slcU (x : U) (lo hi : Option Int) (Q : QU) : Prop := match x with
  | .tup us => Q (.tup (cutU us lo hi))
  | .lst us => Q (.lst (cutU us lo hi))
  | _ => False
def truU : U → Option Bool
  | .non => some false
  | .bl b => some b
  | .int i => some (i != 0)
  | .tup us => some (!us.isEmpty)
  | .lst us => some (!us.isEmpty)
  | _ => none
def U.ty0 : U → Option Ty
  | .non => some .none
  | .bl _ => some .bool
  | .int _ => some .int
  | .str _ => some .str
  | .tup _ => some .tuple
  | .lst _ => some .list
  | _ => none
def isiU (x : U) : U → Option Bool
  | .ty n => match x.ty0 with
    | some t => if n = "int" then some (t.sub .int) else if n = "bool" then some (t.sub .bool) else if n = "tuple" then some (t.sub .tuple) else if n = "list" then some (t.sub .list) else if n = "str" then some (t.sub .str) else none
    | none => none
  | .tup [.ty "list", .ty "tuple"] => match x.ty0 with
    | some t => some (t.sub .list || t.sub .tuple)
    | none => none
  | _ => none
def intsU : List U → Option (List Int)
  | [] => some []
  | .int i :: r => (intsU r).map (i :: ·)
  | _ => none
def blsU : List U → Option (List Bool)
  | [] => some []
  | .bl i :: r => (blsU r).map (i :: ·)
  | _ => none
def strsU : List U → Option (List Str)
  | [] => some []
  | .str i :: r => (strsU r).map (i :: ·)
  | _ => none
def biU (b : Bi) (us : List U) (Q : QU) : Prop := match b, us with
  | .len, [.str z] => z.length ≤ sizeLine ∧ Q (.int z.length)
  | .len, [.tup xs] => Q (.int xs.length)
  | .len, [.lst xs] => Q (.int xs.length)
  | .abs, [.int i] => Q (.int (if i < 0 then -i else i))
  | .int, [.int i] => Q (.int i)
  | .gcd, [.int a, .int b] => Q (.int ((Nat.gcd a.natAbs b.natAbs : Nat) : Int))
  | .gcd, [.int a, .int b, .int c] => Q (.int ((Nat.gcd (Nat.gcd a.natAbs b.natAbs) c.natAbs : Nat) : Int))
  | .lcm, [.int a, .int b, .int c] => Lsz a b c ∧ Q (.int ((Nat.lcm (Nat.lcm a.natAbs b.natAbs) c.natAbs : Nat) : Int))
  | .isi, [x, t] => ∃ c, isiU x t = some c ∧ Q (.bl c)
  | .list, [u] => ∃ xs, seqU u = some xs ∧ Q (.lst xs)
  | .tuple, [u] => ∃ xs, seqU u = some xs ∧ Q (.tup xs)
  | .max, [.int i, .int j] => Q (.int (if j > i then j else i))
  | .min, [.int i, .int j] => Q (.int (if j < i then j else i))
  | .sum, [.lst xs] => ∃ ns, intsU xs = some ns ∧ Q (.int ns.sum)
  | .any, [.lst xs] => ∃ bs, blsU xs = some bs ∧ Q (.bl (bs.any id))
  | .all, [.lst xs] => ∃ bs, blsU xs = some bs ∧ Q (.bl (bs.all id))
  | .str, [.int i] => i.natAbs.log2 < 1920 ∧ Q (.str (toString i))
  | .str, [.str z] => Q (.str z)
  | .divmod, [.int i, .int j] => CDivP i j ∧ Q (.tup [.int (i / j), .int (i % j)])
  | .srt, [.lst xs] => ∃ ns : List Int, xs = ns.map U.int ∧ ∀ ms : List Int, ms.Perm ns → ms.Pairwise (· ≤ ·) → Q (.lst (ms.map U.int))
  | _, _ => False
def fmtU (x : U) (Q : QU) : Prop := match x with
  | .str y => y.length ≤ sizeLine ∧ Q (.str y)
  | .int i => i.natAbs.log2 < 1920 ∧ Q (.str (toString i))
  | _ => False
def smtU (m : Sme) (x y : U) (Q : QU) : Prop := match m, x with
  | .join, .str a => ∃ us ys, seqU y = some us ∧ strsU us = some ys ∧ (ys.map (·.length)).sum + ys.length * a.length ≤ 16777216 ∧ Q (.str (Txt.join a ys))
  | .zfill, .str a => ∃ i, y = .int i ∧ PadOk i = true ∧ Q (.str (Txt.zfill a i))
  | _, _ => False
def TxtU (x : U) : Prop := match x with
  | .str y => y.length ≤ 1000
  | .int i => i.natAbs.log2 < 1920
  | _ => False
section
variable {P : Pl} {N M : Mm}
theorem seq_rep {u : U} {d : D} {us : List U} (l : N.le M) (r : RU P N u d) (h : seqU u = some us) : ∃ ds, seqD M d = some ds ∧ RUs P N us ds := by
  cases r with
  | tup r => cases h; exact ⟨_, rfl, r⟩
  | lst a r =>
    cases h
    exact ⟨_, by simp only [seqD, l _ _ a], r⟩
  | _ => cases h
theorem pys_rep {f : U → Option PyData} {g : D → Option PyData} (h : ∀ u d p, RU P N u d → f u = some p → g d = some p) : ∀ {us : List U} {ds : List D} {ps : List PyData}, RUs P N us ds → uPys f us = some ps → toPys g ds = some ps
  | _, _, _, .nil, e => e
  | u :: us, d :: ds, ps, .cons a r, e => by
    simp only [uPys] at e
    cases e1 : f u with
    | none => rw [e1] at e; cases e
    | some p =>
      cases e2 : uPys f us with
      | none => rw [e1, e2] at e; cases e
      | some qs =>
        rw [e1, e2] at e
        cases e
        simp only [toPys, h u d p a e1, pys_rep h r e2]
theorem py_rep (l : N.le M) : ∀ (n : Nat) (u : U) (d : D) (p : PyData), RU P N u d → uPy n u = some p → toPy M n d = some p
  | 0, _, _, _, _, h => by cases h
  | n + 1, u, d, p, r, h => by
    cases r with
    | non => exact h
    | bl b => exact h
    | int i => exact h
    | str x => exact h
    | tup r =>
      simp only [uPy] at h
      simp only [toPy]
      split at h
      · rename_i ps e
        rw [pys_rep (py_rep l n) r e]; exact h
      · cases h
    | lst a r =>
      simp only [uPy] at h
      split at h
      · rename_i ps e
        simp only [toPy, l _ _ a, pys_rep (py_rep l n) r e]; exact h
      · cases h
    | ty n => simp [uPy] at h
    | obj a b c => simp [uPy] at h
    | hand a => simp [uPy] at h
theorem eq_rep (l : N.le M) {x y : U} {d e : D} {c : Bool} (r1 : RU P N x d) (r2 : RU P N y e) (h : eqU x y = some c) : ∃ p q, toPy M 9 d = some p ∧ toPy M 9 e = some q ∧ PyData.eqv p q = c := by
  unfold eqU at h
  cases e1 : uPy 9 x with
  | none => rw [e1] at h; cases h
  | some p =>
    cases e2 : uPy 9 y with
    | none => rw [e1, e2] at h; cases h
    | some q =>
      rw [e1, e2] at h
      cases h
      exact ⟨p, q, py_rep l 9 _ _ _ r1 e1, py_rep l 9 _ _ _ r2 e2, rfl⟩
theorem sc_rep {u : U} {d e : D} (r : RU P N u d) (h : u.sc = some e) : d = e ∧ d.flat = true := by
  cases r <;> cases h <;> exact ⟨rfl, rfl⟩
theorem scs_rep : ∀ {us : List U} {ds es : List D}, RUs P N us ds → scs us = some es → ds = es ∧ ds.all D.flat = true
  | _, _, _, .nil, h => by cases h; exact ⟨rfl, rfl⟩
  | u :: us, d :: ds, es, .cons a r, h => by
    simp only [scs] at h
    split at h
    · rename_i e1 e2
      cases h
      obtain ⟨rfl, f1⟩ := sc_rep a e1
      obtain ⟨rfl, f2⟩ := scs_rep r e2
      exact ⟨rfl, by simp [f1, f2]⟩
    · cases h
theorem in_rep (l : N.le M) {x y : U} {d e : D} {c : Bool} (r1 : RU P N x d) (r2 : RU P N y e) (h : inU x y = some c) : ∃ ds, seqD M e = some ds ∧ (d.flat && ds.all D.flat) = true ∧ inV d.toV (ds.map D.toV) = c := by
  unfold inU at h
  cases e1 : seqU y with
  | none => rw [e1] at h; cases h
  | some us =>
    rw [e1] at h
    obtain ⟨ds, h1, r⟩ := seq_rep l r2 e1
    cases e2 : x.sc with
    | none => simp [e2] at h
    | some dx =>
      cases e3 : scs us with
      | none => simp [e2, e3] at h
      | some dys =>
        simp only [e2, e3, Option.some.injEq] at h
        obtain ⟨rfl, f1⟩ := sc_rep r1 e2
        obtain ⟨rfl, f2⟩ := scs_rep r e3
        exact ⟨_, h1, by rw [f1, f2]; rfl, h⟩
theorem cmp_rep (l : N.le M) {o : CmpOp} {x y : U} {d e : D} {c : Bool} (r1 : RU P N x d) (r2 : RU P N y e) (h : cmpU o x y = some c) : cmpD M o d e = some c := by
  have hn : ∀ {z : Option Bool} {c : Bool}, z.map (!·) = some c → ∃ b, z = some b ∧ (!b) = c := fun {z c} h => by
    cases z with
    | none => cases h
    | some b => cases h; exact ⟨b, rfl, rfl⟩
  cases o with
  | Eq =>
    obtain ⟨p, q, h1, h2, h3⟩ := eq_rep l r1 r2 h
    simp only [cmpD, h1, h2, h3]
  | NotEq =>
    obtain ⟨b, hb, rfl⟩ := hn h
    obtain ⟨p, q, h1, h2, h3⟩ := eq_rep l r1 r2 hb
    simp only [cmpD, h1, h2, h3]
  | In =>
    obtain ⟨ds, h1, h2, h3⟩ := in_rep l r1 r2 h
    simp only [cmpD, h1, h2, h3, if_true]
  | NotIn =>
    obtain ⟨b, hb, rfl⟩ := hn h
    obtain ⟨ds, h1, h2, h3⟩ := in_rep l r1 r2 hb
    simp only [cmpD, h1, h2, h3, if_true]
  | Is =>
    cases y <;> first | (cases r2; cases x <;> cases h <;> cases r1 <;> rfl) | (cases x <;> cases h)
  | IsNot =>
    cases y <;> first | (cases r2; cases x <;> cases h <;> cases r1 <;> rfl) | (cases x <;> cases h)
  | Lt => cases x <;> cases y <;> first | (cases h; done) | (cases r1; cases r2; exact h)
  | LtE => cases x <;> cases y <;> first | (cases h; done) | (cases r1; cases r2; exact h)
  | Gt => cases x <;> cases y <;> first | (cases h; done) | (cases r1; cases r2; exact h)
  | GtE => cases x <;> cases y <;> first | (cases h; done) | (cases r1; cases r2; exact h)
theorem RUs.cut {us : List U} {ds : List D} (r : RUs P N us ds) (lo hi : Option Int) : RUs P N (cutU us lo hi) (cutD ds lo hi) := by
  unfold cutU cutD
  rw [r.length]
  exact (r.drop _).take _
def KQ (P : Pl) (N M : Mm) (Q : QU) (Qd : QD) : Prop := ∀ u d N' M', Stp P N M N' M' → RU P N' u d → Q u → Qd d M'
theorem KQ.here {Q : QU} {Qd : QD} (k : KQ P N M Q Qd) (w : Wd P N M) {u : U} {d : D} (r : RU P N u d) (q : Q u) : Qd d M := k u d N M (Stp.refl w) r q
theorem KQ.list {Q : QU} {Qd : QD} (k : KQ P N M Q Qd) (w : Wd P N M) {us : List U} {ds : List D} (r : RUs P N us ds) (q : Q (.lst us)) : ∀ p, M p = none → Qd (.ref p) (M.put p (.lst ds)) := fun p hp => by
  have s := w.new hp (.lst ds)
  exact k _ _ _ _ s (.lst Mm.put_same (r.mono s.le)) q
theorem op_rep {o : Operator} {x y : U} {d e : D} {Q : QU} {Qd : QD} (w : Wd P N M) (r1 : RU P N x d) (r2 : RU P N y e) (h : opU o x y Q) (k : KQ P N M Q Qd) : opD o d e M Qd := by
  cases o with
  | Add =>
    cases x <;> cases y <;> try (exact h.elim)
    · cases r1; cases r2; exact k.here w (.int _) h
    · cases r1; cases r2; exact ⟨h.1, k.here w (.str _) h.2⟩
    · cases r1 with
      | tup a => cases r2 with
        | tup b => exact ⟨by rw [← a.length, ← b.length]; exact h.1, k.here w (.tup (a.append b)) h.2⟩
    · cases r1 with
      | lst a b => cases r2 with
        | lst a2 b2 => exact ⟨_, _, w.le _ _ a, w.le _ _ a2, by rw [← b.length, ← b2.length]; exact h.1, k.list w (b.append b2) h.2⟩
  | Sub => cases x <;> cases y <;> try (exact h.elim)
           cases r1; cases r2; exact k.here w (.int _) h
  | Mult =>
    cases x <;> cases y <;> try (exact h.elim)
    · cases r1; cases r2; exact ⟨h.1, k.here w (.int _) h.2⟩
    · cases r1 with
      | lst a b =>
        cases r2
        exact ⟨_, w.le _ _ a, h.1, h.2.1, by rw [← b.length]; exact h.2.2.1, k.list w (b.rep _) h.2.2.2⟩
  | FloorDiv => cases x <;> cases y <;> try (exact h.elim)
                cases r1; cases r2; exact ⟨h.1, k.here w (.int _) h.2⟩
  | Mod => cases x <;> cases y <;> try (exact h.elim)
           cases r1; cases r2; exact ⟨h.1, k.here w (.int _) h.2⟩
  | Pow => cases x <;> cases y <;> try (exact h.elim)
           cases r1; cases r2; exact ⟨h.1, k.here w (.int _) h.2⟩
  | _ => cases x <;> cases y <;> exact h.elim
theorem ix_rep {x y : U} {d e : D} {Q : QU} {Qd : QD} (w : Wd P N M) (r1 : RU P N x d) (r2 : RU P N y e) (h : ixU x y Q) (k : KQ P N M Q Qd) : ixD d e M Qd := by
  cases x <;> cases y <;> try (exact h.elim)
  · cases r1; cases r2
    obtain ⟨l, c, hc, q⟩ := h
    exact ⟨l, c, hc, k.here w (.str _) q⟩
  · cases r2
    cases r1 with
    | tup a =>
      obtain ⟨u, hu, q⟩ := h
      obtain ⟨v, hv, r⟩ := a.at_ hu
      exact ⟨v, hv, k.here w r q⟩
  · cases r2
    cases r1 with
    | lst a b =>
      obtain ⟨u, hu, q⟩ := h
      obtain ⟨v, hv, r⟩ := b.at_ hu
      exact ⟨_, .inl (w.le _ _ a), v, hv, k.here w r q⟩
theorem slc_rep {x : U} {d : D} {lo hi : Option Int} {Q : QU} {Qd : QD} (w : Wd P N M) (r1 : RU P N x d) (h : slcU x lo hi Q) (k : KQ P N M Q Qd) : slcD d lo hi M Qd := by
  cases x <;> try (exact h.elim)
  · cases r1 with
    | tup a => exact k.here w (.tup (a.cut lo hi)) h
  · cases r1 with
    | lst a b => exact ⟨_, .inl (w.le _ _ a), k.list w (b.cut lo hi) h⟩
theorem emp_rep {us : List U} {ds : List D} (r : RUs P N us ds) : ds.isEmpty = us.isEmpty := by cases r <;> rfl
theorem tru_rep (l : N.le M) {x : U} {d : D} {b : Bool} (r : RU P N x d) (h : truU x = some b) : truD M d = some b := by
  cases r with
  | tup r => simp only [truU] at h; simp only [truD, emp_rep r, h]
  | lst a r => simp only [truU] at h; simp only [truD, l _ _ a, emp_rep r, h]
  | non => exact h
  | bl b => exact h
  | int i => exact h
  | _ => cases h
theorem ty_rep (l : N.le M) {x : U} {d : D} {t : Ty} (r : RU P N x d) (h : x.ty0 = some t) : Ty.of M d = some t := by
  cases r with
  | lst a r => cases h; simp only [Ty.of, l _ _ a]
  | tup r => exact h
  | non => exact h
  | bl b => exact h
  | int i => exact h
  | str i => exact h
  | _ => cases h
theorem isi_rep (l : N.le M) {x t : U} {d e : D} {b : Bool} (r : RU P N x d) (r2 : RU P N t e) (h : isiU x t = some b) : isiD M d e = some b := by
  unfold isiU at h
  split at h
  · cases r2
    split at h
    · rename_i ty e1
      simp only [isiD, ty_rep l r e1]
      exact h
    · cases h
  · split at h
    · rename_i ty e1
      cases r2 with
      | tup a =>
        obtain ⟨d1, e1', rfl, a, b⟩ := a.two
        cases a; cases b
        simp only [isiD, ty_rep l r e1]
        exact h
    · cases h
  · cases h
theorem ints_rep : ∀ {us : List U} {ds : List D} {ns : List Int}, RUs P N us ds → intsU us = some ns → intsD ds = some ns
  | _, _, _, .nil, h => h
  | u :: us, d :: ds, ns, .cons a r, h => by
    cases u <;> simp only [intsU] at h <;> try (cases h; done)
    cases a
    cases e : intsU us with
    | none => rw [e] at h; cases h
    | some ms => rw [e] at h; simp only [intsD, ints_rep r e]; exact h
theorem bls_rep : ∀ {us : List U} {ds : List D} {ns : List Bool}, RUs P N us ds → blsU us = some ns → blsD ds = some ns
  | _, _, _, .nil, h => h
  | u :: us, d :: ds, ns, .cons a r, h => by
    cases u <;> simp only [blsU] at h <;> try (cases h; done)
    cases a
    cases e : blsU us with
    | none => rw [e] at h; cases h
    | some ms => rw [e] at h; simp only [blsD, bls_rep r e]; exact h
theorem strs_rep : ∀ {us : List U} {ds : List D} {ns : List Str}, RUs P N us ds → strsU us = some ns → strsD ds = some ns
  | _, _, _, .nil, h => h
  | u :: us, d :: ds, ns, .cons a r, h => by
    cases u <;> simp only [strsU] at h <;> try (cases h; done)
    cases a
    cases e : strsU us with
    | none => rw [e] at h; cases h
    | some ms => rw [e] at h; simp only [strsD, strs_rep r e]; exact h
theorem rep_ints : ∀ {ns : List Int} {ds : List D}, RUs P N (ns.map U.int) ds → ds = ns.map D.int
  | [], _, .nil => rfl
  | n :: ns, _, .cons r t => by cases r; rw [rep_ints t]; rfl
theorem ints_rep' : ∀ (ns : List Int), RUs P N (ns.map U.int) (ns.map D.int)
  | [] => .nil
  | n :: ns => .cons (.int n) (ints_rep' ns)
theorem bi_rep {b : Bi} {us : List U} {ds : List D} {Q : QU} {Qd : QD} (w : Wd P N M) (r : RUs P N us ds) (h : biU b us Q) (k : KQ P N M Q Qd) : biD b ds M Qd := by
  unfold biU at h
  split at h
  · obtain ⟨d, rfl, r1⟩ := r.one; cases r1; exact ⟨h.1, k.here w (.int _) h.2⟩
  · obtain ⟨d, rfl, r1⟩ := r.one; cases r1 with | tup a => exact ⟨_, rfl, k.here w (.int _) (by rw [← a.length]; exact h)⟩
  · obtain ⟨d, rfl, r1⟩ := r.one; cases r1 with | lst a b => exact ⟨_, seq_ref (w.le _ _ a), k.here w (.int _) (by rw [← b.length]; exact h)⟩
  · obtain ⟨d, rfl, r1⟩ := r.one; cases r1; exact k.here w (.int _) h
  · obtain ⟨d, rfl, r1⟩ := r.one; cases r1; exact k.here w (.int _) h
  · obtain ⟨d, e, rfl, r1, r2⟩ := r.two; cases r1; cases r2; exact k.here w (.int _) h
  · cases r with | cons r1 r => cases r with | cons r2 r => cases r with | cons r3 r =>
    cases r; cases r1; cases r2; cases r3; exact k.here w (.int _) h
  · cases r with | cons r1 r => cases r with | cons r2 r => cases r with | cons r3 r =>
    cases r; cases r1; cases r2; cases r3; exact ⟨h.1, k.here w (.int _) h.2⟩
  · obtain ⟨d, e, rfl, r1, r2⟩ := r.two
    obtain ⟨c, hc, q⟩ := h
    exact ⟨c, isi_rep w.le r1 r2 hc, k.here w (.bl _) q⟩
  · obtain ⟨d, rfl, r1⟩ := r.one
    obtain ⟨xs, hx, q⟩ := h
    obtain ⟨ds, h1, r2⟩ := seq_rep w.le r1 hx
    exact ⟨ds, h1, k.list w r2 q⟩
  · obtain ⟨d, rfl, r1⟩ := r.one
    obtain ⟨xs, hx, q⟩ := h
    obtain ⟨ds, h1, r2⟩ := seq_rep w.le r1 hx
    exact ⟨ds, h1, k.here w (.tup r2) q⟩
  · obtain ⟨d, e, rfl, r1, r2⟩ := r.two; cases r1; cases r2; exact k.here w (.int _) h
  · obtain ⟨d, e, rfl, r1, r2⟩ := r.two; cases r1; cases r2; exact k.here w (.int _) h
  · obtain ⟨d, rfl, r1⟩ := r.one
    obtain ⟨ns, hn, q⟩ := h
    cases r1 with | lst a b => exact ⟨_, ns, seq_ref (w.le _ _ a), rfl, ints_rep b hn, k.here w (.int _) q⟩
  · obtain ⟨d, rfl, r1⟩ := r.one
    obtain ⟨ns, hn, q⟩ := h
    cases r1 with | lst a b => exact ⟨_, ns, seq_ref (w.le _ _ a), rfl, bls_rep b hn, k.here w (.bl _) q⟩
  · obtain ⟨d, rfl, r1⟩ := r.one
    obtain ⟨ns, hn, q⟩ := h
    cases r1 with | lst a b => exact ⟨_, ns, seq_ref (w.le _ _ a), rfl, bls_rep b hn, k.here w (.bl _) q⟩
  · obtain ⟨d, rfl, r1⟩ := r.one; cases r1; exact ⟨h.1, k.here w (.str _) h.2⟩
  · obtain ⟨d, rfl, r1⟩ := r.one; cases r1; exact k.here w (.str _) h
  · obtain ⟨d, e, rfl, r1, r2⟩ := r.two; cases r1; cases r2; exact ⟨h.1, k.here w (.tup (.cons (.int _) (.cons (.int _) .nil))) h.2⟩
  · obtain ⟨d, rfl, r1⟩ := r.one
    obtain ⟨ns, rfl, q⟩ := h
    cases r1 with | lst a b => exact ⟨ns, .inl (by rw [w.le _ _ a, rep_ints b]), fun ms h1 h2 => k.list w (ints_rep' ms) (q ms h1 h2)⟩
  · exact h.elim
theorem fmt_rep {x : U} {d : D} {Q : QU} {Qd : QD} (w : Wd P N M) (r : RU P N x d) (h : fmtU x Q) (k : KQ P N M Q Qd) : fmtD d M Qd := by
  cases x <;> try (exact h.elim)
  · cases r; exact ⟨h.1, k.here w (.str _) h.2⟩
  · cases r; exact ⟨h.1, k.here w (.str _) h.2⟩
theorem smt_rep {m : Sme} {x y : U} {d e : D} {Q : QU} {Qd : QD} (w : Wd P N M) (r1 : RU P N x d) (r2 : RU P N y e) (h : smtU m x y Q) (k : KQ P N M Q Qd) : smtD m d e M Qd := by
  cases m <;> cases x <;> try (exact h.elim)
  · cases r1
    obtain ⟨us, ys, h1, h2, h3, q⟩ := h
    obtain ⟨ds, h4, r⟩ := seq_rep w.le r2 h1
    exact ⟨ds, ys, h4, strs_rep r h2, h3, k.here w (.str _) q⟩
  · cases r1
    obtain ⟨i, rfl, h1, q⟩ := h
    cases r2
    exact ⟨i, rfl, h1, k.here w (.str _) q⟩
theorem txt_rep {x : U} {d : D} (r : RU P N x d) (h : TxtU x) : TxtD d := by
  cases x <;> try (exact h.elim)
  · cases r; exact h
  · cases r; exact h
end
end VL
namespace VL
open PySem PySem.Spec L2 DL LW
structure Xu where
  g : Nat
  ks : List Str
  us : List U
abbrev EU := Xu → Prop
abbrev VSp := List U → EU → QU → Prop
abbrev VSi := List U → EU → (List Str → List U → Prop) → Prop
inductive VG where
  | no | fn (n : Nat) (sp : VSp) (dfl : List U) | val (u : U) | err (fs : List Str) (tx : List Nat) | cls | cla (i : Option (Nat × VSi × List U))
structure VM where
  gv : Nat → VG := fun _ => .no
  fld : Nat → Str → Bool := fun _ _ => false
  sub : Nat → Nat → Option Bool := fun _ _ => none
  xfl : Nat → Str → Bool := fun _ _ => false
  kwc : Nat → Nat → List Str → Option (List (Sum Nat U)) := fun _ _ _ => none
  mt : Nat → Str → Option (Nat × VSp × List U) := fun _ _ => none
  pr : Nat → Str → Option VSp := fun _ _ => none
  isi : Sum String Nat → Nat → Option Bool := fun _ _ => none
  nf : Sum String Nat → Nat → Bool := fun _ _ => false
  exn : Option (Nat × Xu) := none
def VG.isCls : VG → Bool
  | .err _ _ => true
  | .cls => true
  | _ => false
def VG.isIns : VG → Bool
  | .cla _ => true
  | _ => false
abbrev EnU := List (Option U)
abbrev TU := EnU → EU → QU → Prop
abbrev TUs := EnU → EU → (List U → Prop) → Prop
abbrev TUt := EnU → EU → (Bool → Prop) → Prop
def callV (g : VG) (k : Nat) (us : List U) (E : EU) (Q : QU) : Prop := match g with
  | .fn n sp dfl => k ≤ n ∧ n - k ≤ dfl.length ∧ us.length = k ∧ sp (us ++ dfl.drop (dfl.length - (n - k))) E Q
  | _ => False
def fldU (f : Str) (ks : List Str) (us : List U) : Option U := (ks.zip us).lookup f
mutual
def bnd : Tg → U → Option (List (Nat × U))
  | .nm i, u => some [(i, u)]
  | .tup ts, u => match u with
    | .tup us => bnds ts us
    | _ => none
def bnds : Tgs → List U → Option (List (Nat × U))
  | .nil, [] => some []
  | .cons t ts, u :: us => match bnd t u, bnds ts us with
    | some a, some b => some (a ++ b)
    | _, _ => none
  | _, _ => none
end
def setB (ρ : EnU) : List (Nat × U) → EnU
  | [] => ρ
  | (i, u) :: bs => setB (ρ.set i (some u)) bs
def wipeU (ρ : EnU) : List Nat → EnU
  | [] => ρ
  | v :: vs => (wipeU ρ vs).set v none
def vComp (step : U → (Option U → Prop) → Prop) : List U → List U → (List U → Prop) → Prop
  | [], acc, Q => Q acc
  | u :: us, acc, Q => step u fun r => match r with
    | none => vComp step us acc Q
    | some x => acc.length < sizeLine ∧ vComp step us (acc ++ [x]) Q
def enmU : Nat → List U → List U
  | _, [] => []
  | i, d :: ds => .tup [.int i, d] :: enmU (i + 1) ds
def zipU : List U → List U → List U
  | d :: ds, e :: es => .tup [d, e] :: zipU ds es
  | _, _ => []
def rngU (lo : Int) (n : Nat) : List U := (List.range n).map fun i => U.int (lo + (i : Nat))
def rngCU (lo c : Int) (n : Nat) : List U := (List.range n).map fun (i : Nat) => U.int (lo + (i : Nat) * c)
def patU (pat : List (Sum Nat U)) (us vs : List U) : List U := pat.map fun
  | .inl i => (us ++ vs).getD i .non
  | .inr u => u
def tyU : U → Option (Sum String Nat)
  | .non => some (.inl "NoneType")
  | .bl _ => some (.inl "bool")
  | .int _ => some (.inl "int")
  | .str _ => some (.inl "str")
  | .tup _ => some (.inl "tuple")
  | .lst _ => some (.inl "list")
  | .obj g _ _ => some (.inr g)
  | _ => none
def EF : EU := fun _ => False
def mtV (V : VM) (g : Nat) (m : Str) (x : U) (k : Nat) (us : List U) (E : EU) (Q : QU) : Prop := match V.mt g m with
  | some (n, sp, dfl) => us.length = k ∧ sp (x :: (us ++ dfl.drop (dfl.length - (n - k)))) E Q
  | none => False
def mtOkV (V : VM) (g : Nat) (m : Str) (k : Nat) : Prop := match V.mt g m with
  | some (n, _, dfl) => k ≤ n ∧ n - k ≤ dfl.length
  | none => False
def isObj (g : Nat) : U → Prop
  | .obj g' _ _ => g' = g
  | _ => False
def noFld (m : Str) : U → Prop
  | .obj _ ks _ => ks.contains m = false
  | _ => False
mutual
def vE (V : VM) : Ex → TU
  | .var i => fun ρ _ Q => match ρ[i]? with
    | some (some u) => Q u
    | _ => False
  | .int i => fun _ _ Q => Q (.int i)
  | .bl b => fun _ _ Q => Q (.bl b)
  | .non => fun _ _ Q => Q .non
  | .str x => fun _ _ Q => Q (.str x)
  | .gl g => fun _ _ Q => match V.gv g with
    | .val u => Q u
    | _ => False
  | .op o a b => fun ρ E Q => vE V a ρ E fun x => vE V b ρ E fun y => opU o x y Q
  | .neg a => fun ρ E Q => vE V a ρ E fun x => match x with
    | .int i => Q (.int (-i))
    | _ => False
  | .cmp o a b => fun ρ E Q => vE V a ρ E fun x => vE V b ρ E fun y => ∃ c, cmpU o x y = some c ∧ Q (.bl c)
  | .chn o1 o2 a b c => fun ρ E Q => vE V a ρ E fun x => vE V b ρ E fun y => ∃ k, cmpU o1 x y = some k ∧
      if k = true then vE V c ρ E (fun z => ∃ k', cmpU o2 y z = some k' ∧ Q (.bl k')) else Q (.bl false)
  | .bop o es => vB V o es
  | .not a => fun ρ E Q => vE V a ρ E fun x => match x with
    | .bl c => Q (.bl (!c))
    | x => ∃ k, truU x = some k ∧ Q (.bl (!k))
  | .ite c a b => fun ρ E Q => vT V c ρ E fun k => if k = true then vE V a ρ E Q else vE V b ρ E Q
  | .tup es => fun ρ E Q => vEs V es ρ E fun us => us.length ≤ sizeLine ∧ Q (.tup us)
  | .lst es => fun ρ E Q => vEs V es ρ E fun us => us.length ≤ sizeLine ∧ Q (.lst us)
  | .ix a b => fun ρ E Q => vE V a ρ E fun x => vE V b ρ E fun y => ixU x y Q
  | .slc a lo hi => fun ρ E Q => vE V a ρ E fun x => vO V lo ρ E fun l => vO V hi ρ E fun h => slcU x l h Q
  | .call g es => fun ρ E Q => vEs V es ρ E fun us => callV (V.gv g) es.len us E Q
  | .bi b es => fun ρ E Q => vEs V es ρ E fun us => biU b us Q
  | .mth _ _ _ => fun _ _ _ => False
  | .fld a f => fun ρ E Q => vE V a ρ E fun x => match x with
    | .obj g ks us => V.fld g f = true ∧ ∃ u, fldU f ks us = some u ∧ Q u
    | _ => False
  | .lc own tg it c e => fun ρ E Q => V.exn = none ∧ vI V it ρ E fun items =>
      vComp (fun u K => ∃ bs, bnd tg u = some bs ∧ vC V c (setB (wipeU ρ own) bs) EF fun b => if b = true then vE V e (setB (wipeU ρ own) bs) EF (fun x => K (some x)) else K none)
        items [] fun acc => Q (.lst acc)
  | .xfl a f => fun _ _ Q => match V.exn, a with
    | some (j, x), .var i => i = j ∧ V.xfl x.g f = true ∧ x.ks ≠ [] ∧ ∃ u, fldU f x.ks x.us = some u ∧ Q u
    | _, _ => False
  | .xis a g => fun _ _ Q => match V.exn, a with
    | some (j, x), .var i => i = j ∧ (V.gv g).isCls = true ∧ ∃ b, V.sub x.g g = some b ∧ Q (.bl b)
    | _, _ => False
  | .tyn t => fun _ _ Q => Q (.ty t.nm)
  | .callk g es ks zs => fun ρ E Q => match V.gv g, V.kwc g es.len ks with
    | .fn _ sp _, some pat => vEs V es ρ E fun us => vEs V zs ρ E fun ws => us.length = es.len ∧ ws.length = ks.length ∧ sp (patU pat us ws) E Q
    | _, _ => False
  | .rev a => fun ρ E Q => vE V a ρ E fun x => match x with
    | .lst us => Q (.lst us.reverse)
    | .tup us => Q (.tup us.reverse)
    | _ => False
  | .lrv a => fun ρ E Q => vE V a ρ E fun x => match x with
    | .lst us => Q (.lst us.reverse)
    | _ => False
  | .mk g es => fun ρ E Q => match V.gv g with
    | .cla (some (n, sp, dfl)) => es.len ≤ n ∧ n - es.len ≤ dfl.length ∧ vEs V es ρ E fun us => us.length = es.len ∧ sp (us ++ dfl.drop (dfl.length - (n - es.len))) E fun ks us' => Q (.obj g ks us')
    | _ => False
  | .mkk g es ks zs => fun ρ E Q => match V.gv g, V.kwc g es.len ks with
    | .cla (some (_, sp, _)), some pat => vEs V es ρ E fun us => vEs V zs ρ E fun ws => us.length = es.len ∧ ws.length = ks.length ∧ sp (patU pat us ws) E fun ks' us' => Q (.obj g ks' us')
    | _, _ => False
  | .mc g a m es => fun ρ E Q => (V.gv g).isIns = true ∧ mtOkV V g m es.len ∧ vE V a ρ E fun x => isObj g x ∧ noFld m x ∧ vEs V es ρ E fun us => mtV V g m x es.len us E Q
  | .prp g a f => fun ρ E Q => (V.gv g).isIns = true ∧ match V.pr g f with
    | some sp => vE V a ρ E fun x => isObj g x ∧ sp [x] EF Q
    | none => False
  | .lno g a => fun ρ E Q => (V.gv g).isIns = true ∧ mtOkV V g "__len__" 0 ∧ vE V a ρ E fun x => isObj g x ∧ mtV V g "__len__" x 0 [] EF fun d => ∃ i : Int, d = .int i ∧ 0 ≤ i ∧ i < 2 ^ 63 ∧ Q (.int i)
  | .iso a g => fun ρ E Q => (V.gv g).isIns = true ∧ vE V a ρ E fun x => ∃ t b, tyU x = some t ∧ V.isi t g = some b ∧ Q (.bl b)
  | .oeq g a b => fun ρ E Q => (V.gv g).isIns = true ∧ mtOkV V g "__eq__" 1 ∧ vE V a ρ E fun x => vE V b ρ E fun y => isObj g x ∧ (∃ t, tyU y = some t ∧ V.nf t g = true) ∧ mtV V g "__eq__" x 1 [y] EF fun d => ∃ c, d = .bl c ∧ Q (.bl c)
  | .one g a b => fun ρ E Q => (V.gv g).isIns = true ∧ mtOkV V g "__eq__" 1 ∧ V.nf (.inl "!=") g = true ∧ vE V a ρ E fun x => vE V b ρ E fun y => isObj g x ∧ (∃ t, tyU y = some t ∧ V.nf t g = true) ∧ mtV V g "__eq__" x 1 [y] EF fun d => ∃ c, d = .bl c ∧ Q (.bl (!c))
  | .fmt a => fun ρ E Q => vE V a ρ E fun x => fmtU x Q
  | .fst es => fun ρ E Q => vJ V es Str.empty ρ E fun out => Q (.str out)
  | .smt m a e => fun ρ E Q => vE V a ρ E fun x => (∃ z, x = .str z) ∧ vE V e ρ E fun y => smtU m x y Q
def vJ (V : VM) : Exs → Str → EnU → EU → (Str → Prop) → Prop
  | .nil => fun acc _ _ Q => Q acc
  | .cons e es => fun acc ρ E Q => vE V e ρ E fun u => ∃ y, u = .str y ∧ (acc ++ y).length ≤ sizeLine ∧ vJ V es (acc ++ y) ρ E Q
def vEs (V : VM) : Exs → TUs
  | .nil => fun _ _ Q => Q []
  | .cons e es => fun ρ E Q => vE V e ρ E fun u => vEs V es ρ E fun us => Q (u :: us)
def vO (V : VM) : Exo → EnU → EU → (Option Int → Prop) → Prop
  | .none => fun _ _ Q => Q none
  | .some e => fun ρ E Q => vE V e ρ E fun u => match u with
    | .int i => Q (some i)
    | _ => False
def vC (V : VM) : Teo → TUt
  | .none => fun _ _ Q => Q true
  | .some t => vT V t
def vB (V : VM) (o : BoolOp) : Exs → TU
  | .nil => fun _ _ _ => False
  | .cons e es => fun ρ E Q => match es with
    | .nil => vE V e ρ E Q
    | _ => vE V e ρ E fun x => match x, o with
      | .bl true, .And => vB V o es ρ E Q
      | .bl false, .And => Q (.bl false)
      | .bl true, .Or => Q (.bl true)
      | .bl false, .Or => vB V o es ρ E Q
      | .int i, .Or => (i ≠ 0 ∧ Q (.int i)) ∨ (i = 0 ∧ vB V o es ρ E Q)
      | _, _ => False
def vT (V : VM) : Te → TUt
  | .val e => fun ρ E Q => vE V e ρ E fun u => ∃ k, truU u = some k ∧ Q k
  | .bop o ts => vBT V o ts
  | .oeq g a b => fun ρ E Q => (V.gv g).isIns = true ∧ mtOkV V g "__eq__" 1 ∧ vE V a ρ E fun x => vE V b ρ E fun y => isObj g x ∧ (∃ t, tyU y = some t ∧ V.nf t g = true) ∧ mtV V g "__eq__" x 1 [y] EF fun d => ∃ c, d = .bl c ∧ Q c
  | .not a => fun ρ E Q => vT V a ρ E fun k => Q (!k)
  | .cmp o a b => fun ρ E Q => vE V a ρ E fun x => vE V b ρ E fun y => ∃ c, cmpU o x y = some c ∧ Q c
  | .chn o1 o2 a b c => fun ρ E Q => vE V a ρ E fun x => vE V b ρ E fun y => ∃ k, cmpU o1 x y = some k ∧
      if k = true then vE V c ρ E (fun z => ∃ k', cmpU o2 y z = some k' ∧ Q k') else Q false
def vBT (V : VM) (o : BoolOp) : Tes → TUt
  | .nil => fun _ _ _ => False
  | .cons t ts => fun ρ E Q => match ts with
    | .nil => vT V t ρ E Q
    | _ => vT V t ρ E fun k => match k, o with
      | true, .And => vBT V o ts ρ E Q
      | false, .And => Q false
      | true, .Or => Q true
      | false, .Or => vBT V o ts ρ E Q
def vI (V : VM) : Si → EnU → EU → (List U → Prop) → Prop
  | .seq e => fun ρ E Q => vE V e ρ E fun u => ∃ us, seqU u = some us ∧ Q us
  | .rng1 a => fun ρ E Q => vE V a ρ E fun u => match u with
    | .int j => sml j ∧ Q (rngU 0 j.toNat)
    | _ => False
  | .rng2 a b => fun ρ E Q => vE V a ρ E fun u => vE V b ρ E fun v => match u, v with
    | .int i, .int j => sml i ∧ sml j ∧ Q (rngU i (j - i).toNat)
    | _, _ => False
  | .rng3 a b c => fun ρ E Q => vE V a ρ E fun u => vE V b ρ E fun v => vE V c ρ E fun z => match u, v, z with
    | .int i, .int j, .int k => ∃ n, RgC i j k n ∧ Q (rngCU i k n)
    | _, _, _ => False
  | .enm a => fun ρ E Q => vE V a ρ E fun u => ∃ us, seqU u = some us ∧ Q (enmU 0 us)
  | .rev a => fun ρ E Q => vE V a ρ E fun u => ∃ us, seqU u = some us ∧ Q us.reverse
  | .zip a b => fun ρ E Q => vE V a ρ E fun u => vE V b ρ E fun v => ∃ us vs, seqU u = some us ∧ seqU v = some vs ∧ Q (zipU us vs)
end
end VL
namespace VL
open PySem PySem.Spec L2 DL LW
structure RX (P : Pl) (N : Mm) (x : Xu) (xd : Xd) : Prop where
  c : xd.C = P.cl x.g
  f : (x.ks = [] ∧ xd.d = none) ∨ ∃ dd ds, xd.d = some dd ∧ N dd = some (.exd (x.ks.zip ds)) ∧ x.ks.length = x.us.length ∧ RUs P N x.us ds
theorem RX.mono {P : Pl} {N N' : Mm} (e : N.le N') {x : Xu} {xd : Xd} (h : RX P N x xd) : RX P N' x xd := ⟨h.c, h.f.elim .inl fun ⟨dd, ds, a, b, c, d⟩ => .inr ⟨dd, ds, a, e _ _ b, c, d.mono e⟩⟩
def KX (P : Pl) (N M : Mm) (E : EU) (Ed : EK) : Prop := ∀ x xd N' M', Stp P N M N' M' → RX P N' x xd → E x → Ed xd M'
def KL (P : Pl) (N M : Mm) (Q : List U → Prop) (Qd : List D → Mm → Prop) : Prop := ∀ us ds N' M', Stp P N M N' M' → RUs P N' us ds → Q us → Qd ds M'
def KB {α : Type} (P : Pl) (N M : Mm) (Q : α → Prop) (Qd : α → Mm → Prop) : Prop := ∀ b N' M', Stp P N M N' M' → Q b → Qd b M'
def KI (P : Pl) (N M : Mm) (Q : List U → Prop) (Qd : List D → (Mm → Prop) → Mm → Prop) : Prop := ∀ us ds (G : Mm → Prop) N' M', Stp P N M N' M' → RUs P N' us ds → (∀ N2 M2 : Mm, N'.le N2 → N2.le M2 → G M2) → Q us → Qd ds G M'
theorem KQ.on {P : Pl} {N M N1 M1 : Mm} {Q : QU} {Qd : QD} (k : KQ P N M Q Qd) (s : Stp P N M N1 M1) : KQ P N1 M1 Q Qd := fun u d N' M' s' r q => k u d N' M' (s.trans s') r q
theorem KX.on {P : Pl} {N M N1 M1 : Mm} {Q : EU} {Qd : EK} (k : KX P N M Q Qd) (s : Stp P N M N1 M1) : KX P N1 M1 Q Qd := fun u d N' M' s' r q => k u d N' M' (s.trans s') r q
theorem KB.on {α : Type} {P : Pl} {N M N1 M1 : Mm} {Q : α → Prop} {Qd : α → Mm → Prop} (k : KB P N M Q Qd) (s : Stp P N M N1 M1) : KB P N1 M1 Q Qd := fun u N' M' s' q => k u N' M' (s.trans s') q
def LSp (cl : Nat → Addr) (sp : VSp) : DSp := fun ds M E Q => ∃ hd us N Eu Qu, Wd ⟨cl, hd⟩ N M ∧ RUs ⟨cl, hd⟩ N us ds ∧ sp us Eu Qu ∧ KQ ⟨cl, hd⟩ N M Qu Q ∧ KX ⟨cl, hd⟩ N M Eu E
structure StpI (P : Pl) (p : Addr) (N M N' M' : Mm) : Prop where
  le : N.le N'
  ext : ∀ a o, a ≠ p → (∀ q, P.hd = some q → a ≠ q.h) → M a = some o → M' a = some o
  fr : ∀ a, N a = none → M a ≠ none → N' a = none
  wd : Wd P N' M'
def LSi (cl : Nat → Addr) (g : Nat) (sp : VSi) : DSp := fun ds M E Q => ∃ hd p ds' us N Eu Qu, ds = .ref p :: ds' ∧ M p = some (.ins (cl g) []) ∧ N p = none ∧ (∀ q, hd = some q → p ≠ q.h ∧ p ≠ q.c) ∧ Wd ⟨cl, hd⟩ N M ∧ RUs ⟨cl, hd⟩ N us ds' ∧ sp us Eu Qu ∧
  (∀ ks us' ds2 N' M', StpI ⟨cl, hd⟩ p N M N' M' → M' p = some (.ins (cl g) (ks.zip ds2)) → ks.length = us'.length → RUs ⟨cl, hd⟩ N' us' ds2 → Qu ks us' → Q .non M') ∧
  (∀ x xd N' M', StpI ⟨cl, hd⟩ p N M N' M' → RX ⟨cl, hd⟩ N' x xd → Eu x → E xd M')
def IniOk (cl : Nat → Addr) (g : Nat) : Option (Nat × DSp × List D) → Option (Nat × VSi × List U) → Prop
  | _, none => True
  | some (n, sp, dfl), some (n', sp', dfl') => n = n' ∧ (∀ P N, RUs P N dfl' dfl) ∧ ∀ ds M E Q, LSi cl g sp' ds M E Q → sp ds M E Q
  | none, some _ => False
def VGok (cl : Nat → Addr) (g : Nat) : GV → VG → Prop
  | _, .no => True
  | .fn n sp dfl, .fn n' sp' dfl' => n = n' ∧ (∀ P N, RUs P N dfl' dfl) ∧ ∀ ds M E Q, LSp cl sp' ds M E Q → sp ds M E Q
  | .val d, .val u => ∀ P N, RU P N u d
  | .err C fs tx, .err fs' tx' => C = cl g ∧ fs = fs' ∧ tx = tx'
  | .cls C, .cls => C = cl g
  | .cla C i, .cla i' => C = cl g ∧ IniOk cl g i i'
  | _, _ => False
def tyC (cl : Nat → Addr) : Sum String Nat → Sum String Addr
  | .inl s => .inl s
  | .inr g => .inr (cl g)
structure VRel (cl : Nat → Addr) (Γ : Gm) (V : VM) : Prop where
  gv : ∀ g, VGok cl g (Γ.gv g) (V.gv g)
  fld : ∀ g f, V.fld g f = true → Γ.fld (cl g) f
  sub : ∀ g g' b, V.sub g g' = some b → Γ.sub (cl g) (cl g') = some b
  xfl : ∀ g f, V.xfl g f = true → Γ.xfl (cl g) f
  kwc : ∀ g n ks pat, V.kwc g n ks = some pat → ∃ pat', Γ.kwc g n ks = some pat' ∧ ∀ P N us ws ds es, RUs P N us ds → RUs P N ws es → RUs P N (patU pat us ws) (patD pat' ds es)
  mt : ∀ g m n sp dfl, V.mt g m = some (n, sp, dfl) → ∃ sp' dfl', Γ.mt g m = some (n, sp', dfl') ∧ (∀ P N, RUs P N dfl dfl') ∧ ∀ ds M E Q, LSp cl sp ds M E Q → sp' ds M E Q
  pr : ∀ g f sp, V.pr g f = some sp → ∃ sp', Γ.pr g f = some sp' ∧ ∀ ds M E Q, LSp cl sp ds M E Q → sp' ds M E Q
  isi : ∀ t g b, V.isi t g = some b → Γ.isi (tyC cl t) (cl g) = some b
  nf : ∀ t g, V.nf t g = true → Γ.nf (tyC cl t) (cl g) = true
structure REn (P : Pl) (Γ : Gm) (V : VM) (N : Mm) (ρ : EnU) (ρd : DEnv) : Prop where
  len : ρ.length = ρd.length
  at_ : ∀ (i : Nat) (u : U), ρ[i]? = some (some u) → ∃ d, ρd[i]? = some (some d) ∧ RU P N u d
  ex : ∀ (i : Nat) (x : Xu), V.exn = some (i, x) → ∃ p C dx, Γ.exn = some (p, C, dx) ∧ ρd[i]? = some (some (.ref p)) ∧ RX P N x ⟨C, dx⟩
theorem REn.mono {P : Pl} {Γ : Gm} {V : VM} {N N' : Mm} {ρ : EnU} {ρd : DEnv} (e : N.le N') (h : REn P Γ V N ρ ρd) : REn P Γ V N' ρ ρd :=
  ⟨h.len, fun i u hi => let ⟨d, a, b⟩ := h.at_ i u hi; ⟨d, a, b.mono e⟩, fun i x hx => let ⟨p, C, dx, a, b, c⟩ := h.ex i x hx; ⟨p, C, dx, a, b, c.mono e⟩⟩
structure Ct (P : Pl) (Γ : Gm) (V : VM) (ρ : EnU) (ρd : DEnv) (E : EU) (Ed : EK) (N M : Mm) : Prop where
  r : REn P Γ V N ρ ρd
  w : Wd P N M
  x : KX P N M E Ed
theorem Ct.on {P : Pl} {Γ : Gm} {V : VM} {ρ : EnU} {ρd : DEnv} {E : EU} {Ed : EK} {N M N1 M1 : Mm} (c : Ct P Γ V ρ ρd E Ed N M) (s : Stp P N M N1 M1) : Ct P Γ V ρ ρd E Ed N1 M1 := ⟨c.r.mono s.le, s.wd, c.x.on s⟩
section
variable {P : Pl} {N M : Mm}
theorem zip_look {f : Str} : ∀ {ks : List Str} {us : List U} {ds : List D} {u : U}, RUs P N us ds → (ks.zip us).lookup f = some u → ∃ d, (ks.zip ds).lookup f = some d ∧ RU P N u d
  | [], us, ds, u, _, h => by simp at h
  | k :: ks, _, _, u, .nil, h => by simp at h
  | k :: ks, _, _, u, .cons a r, h => by
    simp only [List.zip_cons_cons, List.lookup_cons] at h ⊢
    cases e : f == k with
    | true => rw [e] at h; cases h; exact ⟨_, rfl, a⟩
    | false => rw [e] at h; exact zip_look r h
theorem zip_none {f : Str} : ∀ {ks : List Str} {ds : List D}, ks.contains f = false → (ks.zip ds).lookup f = none
  | [], ds, _ => by simp
  | k :: ks, [], _ => by simp
  | k :: ks, d :: ds, h => by
    simp only [List.contains_cons, Bool.or_eq_false_iff] at h
    simp only [List.zip_cons_cons, List.lookup_cons, h.1]
    exact zip_none h.2
theorem RUs.enm : ∀ {us : List U} {ds : List D} (k : Nat), RUs P N us ds → RUs P N (enmU k us) (enmD k ds)
  | _, _, _, .nil => .nil
  | _, _, k, .cons a r => .cons (.tup (.cons (.int _) (.cons a .nil))) (RUs.enm (k + 1) r)
theorem RUs.zip : ∀ {us vs : List U} {ds es : List D}, RUs P N us ds → RUs P N vs es → RUs P N (zipU us vs) (zipD ds es)
  | _, _, _, _, .nil, _ => .nil
  | _, _, _, _, .cons _ _, .nil => .nil
  | _, _, _, _, .cons a r, .cons b s => .cons (.tup (.cons a (.cons b .nil))) (RUs.zip r s)
theorem RUs.ints (f : Nat → Int) : ∀ (l : List Nat), RUs P N (l.map fun i => U.int (f i)) (l.map fun i => D.int (f i))
  | [] => .nil
  | i :: l => .cons (.int _) (RUs.ints f l)
variable {Γ : Gm} {V : VM}
theorem REn.set {ρ : EnU} {ρd : DEnv} (hx : V.exn = none) (h : REn P Γ V N ρ ρd) {i : Nat} {u : U} {d : D} (r : RU P N u d) : REn P Γ V N (ρ.set i (some u)) (ρd.set i (some d)) := by
  refine ⟨by simp [h.len], fun j v hj => ?_, fun i x e => by rw [hx] at e; cases e⟩
  by_cases hi : i = j
  · subst hi
    by_cases hl : i < ρ.length
    · rw [List.getElem?_set_self hl] at hj; cases hj
      exact ⟨d, by rw [List.getElem?_set_self (by rw [← h.len]; exact hl)], r⟩
    · rw [List.getElem?_eq_none (by simpa using hl)] at hj; cases hj
  · rw [List.getElem?_set_ne hi] at hj
    obtain ⟨e, a, b⟩ := h.at_ j v hj
    exact ⟨e, by rw [List.getElem?_set_ne hi]; exact a, b⟩
theorem REn.wipe1 {ρ : EnU} {ρd : DEnv} (hx : V.exn = none) (h : REn P Γ V N ρ ρd) {i : Nat} : REn P Γ V N (ρ.set i none) (ρd.set i none) := by
  refine ⟨by simp [h.len], fun j v hj => ?_, fun i x e => by rw [hx] at e; cases e⟩
  by_cases hi : i = j
  · subst hi
    by_cases hl : i < ρ.length
    · rw [List.getElem?_set_self hl] at hj; cases hj
    · rw [List.getElem?_eq_none (by simpa using hl)] at hj; cases hj
  · rw [List.getElem?_set_ne hi] at hj
    obtain ⟨e, a, b⟩ := h.at_ j v hj
    exact ⟨e, by rw [List.getElem?_set_ne hi]; exact a, b⟩
theorem REn.wipe {ρ : EnU} {ρd : DEnv} (hx : V.exn = none) (h : REn P Γ V N ρ ρd) : ∀ own : List Nat, REn P Γ V N (wipeU ρ own) (wipeD ρd own)
  | [] => h
  | v :: vs => (REn.wipe hx h vs).wipe1 hx
theorem setB_app (ρ : EnU) : ∀ a b, setB ρ (a ++ b) = setB (setB ρ a) b
  | [], _ => rfl
  | (i, u) :: a, b => setB_app (ρ.set i (some u)) a b
mutual
theorem tg_rep (hx : V.exn = none) : ∀ (t : Tg) {u : U} {d : D} {bs : List (Nat × U)} {ρ : EnU} {ρd : DEnv} {Q : DEnv → Prop}, bnd t u = some bs → RU P N u d → REn P Γ V N ρ ρd → (∀ ρd', REn P Γ V N (setB ρ bs) ρd' → Q ρd') → tgD t d ρd Q
  | .nm i, u, d, bs, ρ, ρd, Q, h, r, R, k => by
    simp only [bnd, Option.some.injEq] at h
    subst h
    exact k _ (R.set hx r)
  | .tup ts, u, d, bs, ρ, ρd, Q, h, r, R, k => by
    cases u <;> simp only [bnd] at h <;> try (cases h; done)
    cases r with
    | tup r => exact tgs_rep hx ts h r R k
theorem tgs_rep (hx : V.exn = none) : ∀ (t : Tgs) {us : List U} {ds : List D} {bs : List (Nat × U)} {ρ : EnU} {ρd : DEnv} {Q : DEnv → Prop}, bnds t us = some bs → RUs P N us ds → REn P Γ V N ρ ρd → (∀ ρd', REn P Γ V N (setB ρ bs) ρd' → Q ρd') → tgsD t ds ρd Q
  | .nil, us, ds, bs, ρ, ρd, Q, h, r, R, k => by
    cases us <;> simp only [bnds] at h <;> try (cases h; done)
    cases h
    cases r
    exact k _ R
  | .cons t ts, us, ds, bs, ρ, ρd, Q, h, r, R, k => by
    cases us with
    | nil => simp [bnds] at h
    | cons u us =>
      cases r with
      | cons a r =>
        simp only [bnds] at h
        cases e1 : bnd t u with
        | none => rw [e1] at h; cases h
        | some b1 =>
          cases e2 : bnds ts us with
          | none => rw [e1, e2] at h; cases h
          | some b2 =>
            rw [e1, e2] at h
            cases h
            simp only [tgsD]
            exact tg_rep hx t e1 a R fun ρ1 R1 => tgs_rep hx ts e2 r R1 fun ρ2 R2 => k ρ2 (by rw [setB_app]; exact R2)
end
theorem KX.f : KX P N M EF E0 := fun _ _ _ _ _ _ h => h.elim
theorem KX.ff : KX P N M EF (fun _ _ => False) := fun _ _ _ _ _ _ h => h.elim
theorem comp_rep {p : Addr} {G : Mm → Prop} {N0 : Mm} {step : U → (Option U → Prop) → Prop} {stepd : D → Mm → (Option D → Mm → Prop) → Prop}
    (hG : ∀ N2 M2 : Mm, N0.le N2 → N2.le M2 → G M2)
    (hs : ∀ u d N M K Kd, N0.le N → Wd P N M → RU P N u d → step u K → (∀ r rd N' M', Stp P N M N' M' → (match r, rd with | none, none => True | some a, some b => RU P N' a b | _, _ => False) → K r → Kd rd M') → stepd d M Kd) :
    ∀ {us : List U} {ds : List D} {acc : List U} {accd : List D} {N M : Mm} {Q : List U → Prop} {Qd : Mm → Prop}, N0.le N → Wd P N M → N p = none → M p = some (.lst accd) → (∀ q, P.hd = some q → p ≠ q.h ∧ p ≠ q.c) → RUs P N us ds → RUs P N acc accd → vComp step us acc Q →
      (∀ acc' accd' N' M', N.le N' → (∀ a o, a ≠ p → (∀ q, P.hd = some q → a ≠ q.h) → M a = some o → M' a = some o) → (∀ a, N a = none → M a ≠ none → N' a = none) → Wd P N' M' → N' p = none → M' p = some (.lst accd') → RUs P N' acc' accd' → Q acc' → Qd M') →
      compL G p stepd ds accd M Qd
  | [], _, acc, accd, N, M, Q, Qd, l0, w, np, mp, hp, .nil, ra, h, k => ⟨hG _ _ l0 w.le, mp, k acc accd N M (Mm.le_refl _) (fun _ _ _ _ e => e) (fun _ e _ => e) w np mp ra h⟩
  | u :: us, _, acc, accd, N, M, Q, Qd, l0, w, np, mp, hp, .cons r rs, ra, h, k => by
    refine ⟨hG _ _ l0 w.le, hs _ _ N M _ _ l0 w r h fun ro rd N1 M1 s m q => ?_⟩
    have hpn : ∀ q, P.hd = some q → p ≠ q.h := fun q e => (hp q e).1
    have mp1 : M1 p = some (.lst accd) := s.ext p _ hpn mp
    have np1 : N1 p = none := s.fr p np (by rw [mp]; simp)
    cases ro with
    | none =>
      cases rd with
      | some _ => exact m.elim
      | none =>
        exact comp_rep hG hs (Mm.le_trans l0 s.le) s.wd np1 mp1 hp (rs.mono s.le) (ra.mono s.le) q fun a ad N' M' l e f w' n' m' r' q' => k a ad N' M' (Mm.le_trans s.le l) (fun x o h1 h2 h3 => e x o h1 h2 (s.ext x o h2 h3)) (fun x h1 h2 => by
          by_cases hx : ∀ q, P.hd = some q → x ≠ q.h
          · refine f x (s.fr x h1 h2) fun z => ?_
            rcases y : M x with _ | o
            · exact h2 y
            · rw [s.ext x o hx y] at z; cases z
          · have : ∃ r, P.hd = some r ∧ x = r.h := Classical.byContradiction fun z => hx fun r e1 e2 => z ⟨r, e1, e2⟩
            obtain ⟨r, e1, rfl⟩ := this
            exact (w'.nh r e1).1) w' n' m' r' q'
    | some x =>
      cases rd with
      | none => exact m.elim
      | some dx =>
        obtain ⟨hl, q⟩ := q
        refine ⟨mp1, by rw [← ra.length]; exact hl, ?_⟩
        have w2 : Wd P N1 (M1.put p (.lst (accd ++ [dx]))) := by
          refine ⟨fun a o e => ?_, fun q e => (s.wd.w q e).put (hp q e), s.wd.nh⟩
          have : a ≠ p := fun z => by rw [z, np1] at e; cases e
          rw [Mm.put_ne this]; exact s.wd.le _ _ e
        refine comp_rep hG hs (Mm.le_trans l0 s.le) w2 np1 Mm.put_same hp (rs.mono s.le) ((ra.mono s.le).append (.cons m .nil)) q fun a ad N' M' l e f w' n' m' r' q' => k a ad N' M' (Mm.le_trans s.le l) (fun x o h1 h2 h3 => e x o h1 h2 (by rw [Mm.put_ne h1]; exact s.ext x o h2 h3)) (fun x h1 h2 => ?_) w' n' m' r' q'
        by_cases hxp : x = p
        · rw [hxp]; exact n'
        by_cases hx : ∀ q, P.hd = some q → x ≠ q.h
        · refine f x (s.fr x h1 h2) fun z => ?_
          rw [Mm.put_ne hxp] at z
          rcases y : M x with _ | o
          · exact h2 y
          · rw [s.ext x o hx y] at z; cases z
        · have : ∃ r, P.hd = some r ∧ x = r.h := Classical.byContradiction fun z => hx fun r e1 e2 => z ⟨r, e1, e2⟩
          obtain ⟨r, e1, rfl⟩ := this
          exact (w'.nh r e1).1
end
end VL
namespace VL
open PySem PySem.Spec L2 DL LW
section
variable {P : Pl} {Γ : Gm} {V : VM}
theorem RUs.rng {N : Mm} {lo : Int} {n : Nat} : RUs P N (rngU lo n) (rngD lo n) := RUs.ints (fun i => lo + (i : Nat)) _
theorem RUs.rngC {N : Mm} {lo c : Int} {n : Nat} : RUs P N (rngCU lo c n) (DL.rngC lo c n) := RUs.ints (fun i => lo + (i : Nat) * c) _
theorem err_cls (R : VRel P.cl Γ V) {g : Nat} (h : (V.gv g).isCls = true) : (Γ.gv g).clsOf = some (P.cl g) := by
  have q := R.gv g
  cases e : V.gv g <;> rw [e] at h q <;> try (cases h; done)
  all_goals (cases e2 : Γ.gv g <;> rw [e2] at q <;> simp only [VGok] at q)
  · obtain ⟨rfl, _⟩ := q; rfl
  · subst q; rfl
theorem ins_cls (R : VRel P.cl Γ V) {g : Nat} (h : (V.gv g).isIns = true) : (Γ.gv g).insOf = some (P.cl g) := by
  have q := R.gv g
  cases e : V.gv g <;> rw [e] at h q <;> try (cases h; done)
  all_goals (cases e2 : Γ.gv g <;> rw [e2] at q <;> simp only [VGok] at q)
  obtain ⟨rfl, _⟩ := q; rfl
theorem call_rep (R : VRel P.cl Γ V) {g k : Nat} {us : List U} {ds : List D} {N M : Mm} {E : EU} {Ed : EK} {Q : QU} {Qd : QD} (w : Wd P N M) (r : RUs P N us ds) (h : callV (V.gv g) k us E Q) (kq : KQ P N M Q Qd) (kx : KX P N M E Ed) : callD (Γ.gv g) k ds M Ed Qd := by
  have q := R.gv g
  cases e : V.gv g <;> rw [e] at h q <;> try (exact h.elim)
  cases e2 : Γ.gv g <;> rw [e2] at q <;> simp only [VGok] at q
  rename_i n' sp' dfl' n sp dfl
  obtain ⟨rfl, hd, hs⟩ := q
  obtain ⟨h1, h2, h3, h4⟩ := h
  have hl := (hd P N).length
  refine ⟨h1, by omega, by rw [← r.length]; exact h3, hs _ _ _ _ ⟨P.hd, _, N, E, Q, w, ?_, h4, kq, kx⟩⟩
  rw [← hl]
  exact r.append ((hd _ _).drop _)
theorem obj_ins {N M : Mm} {g : Nat} {u : U} {d : D} (l : N.le M) (h : isObj g u) (r : RU P N u d) : InsD M (P.cl g) d := by
  cases u <;> try (exact h.elim)
  cases r with
  | obj a b c =>
    have h : _ = g := h
    subst h
    exact ⟨_, _, rfl, l _ _ a⟩
theorem obj_insM {N M : Mm} {g : Nat} {m : Str} {u : U} {d : D} (l : N.le M) (h : isObj g u) (h2 : noFld m u) (r : RU P N u d) : InsM M (P.cl g) m d := by
  cases u <;> try (exact h.elim)
  cases r with
  | obj a b c =>
    have h : _ = g := h
    subst h
    exact ⟨_, _, rfl, l _ _ a, zip_none h2⟩
theorem mt_rep (R : VRel P.cl Γ V) {g k : Nat} {m : Str} {x : U} {us : List U} {dx : D} {ds : List D} {N M : Mm} {E : EU} {Ed : EK} {Q : QU} {Qd : QD} (w : Wd P N M) (rx : RU P N x dx) (r : RUs P N us ds) (ho : mtOkV V g m k) (h : mtV V g m x k us E Q) (kq : KQ P N M Q Qd) (kx : KX P N M E Ed) : mcD Γ g m dx k ds M Ed Qd := by
  unfold mtV at h
  unfold mtOkV at ho
  split at h
  · rename_i n sp dfl e
    rw [e] at ho
    obtain ⟨sp', dfl', e2, hd, hs⟩ := R.mt _ _ _ _ _ e
    unfold mcD
    rw [e2]
    have hl := (hd P N).length
    refine ⟨ho.1, by have := ho.2; omega, by rw [← r.length]; exact h.1, hs _ _ _ _ ⟨P.hd, _, N, E, Q, w, ?_, h.2, kq, kx⟩⟩
    rw [← hl]
    exact .cons rx (r.append ((hd _ _).drop _))
  · exact h.elim
theorem mtN_rep (R : VRel P.cl Γ V) {g k : Nat} {m : Str} (ho : mtOkV V g m k) : mtN Γ g m k := by
  unfold mtOkV at ho
  unfold mtN
  split at ho
  · rename_i n sp dfl e
    obtain ⟨sp', dfl', e2, hd, hs⟩ := R.mt _ _ _ _ _ e
    rw [e2]
    have hl := (hd P (fun _ => none)).length
    show n - k ≤ dfl'.length
    have := ho.2
    omega
  · exact ho.elim
theorem pr_rep (R : VRel P.cl Γ V) {g : Nat} {f : Str} {sp : VSp} {x : U} {dx : D} {N M : Mm} {Q : QU} {Qd : QD} (w : Wd P N M) (rx : RU P N x dx) (e : V.pr g f = some sp) (h : sp [x] EF Q) (kq : KQ P N M Q Qd) : prD Γ g f dx M Qd := by
  obtain ⟨sp', e2, hs⟩ := R.pr _ _ _ e
  unfold prD
  rw [e2]
  exact hs _ _ _ _ ⟨P.hd, _, N, EF, Q, w, .cons rx .nil, h, kq, KX.ff⟩
theorem ty_repD {N M : Mm} (l : N.le M) {u : U} {d : D} {t : Sum String Nat} (r : RU P N u d) (h : tyU u = some t) : tyD M d = some (tyC P.cl t) := by
  cases r with
  | lst a b => cases h; simp only [tyD, l _ _ a]; rfl
  | obj a b c => cases h; simp only [tyD, l _ _ a]; rfl
  | non => cases h; rfl
  | bl b => cases h; rfl
  | int b => cases h; rfl
  | str b => cases h; rfl
  | tup b => cases h; rfl
  | _ => cases h
theorem mk_rep (R : VRel P.cl Γ V) {g k n : Nat} {sp : VSi} {dfl : List U} {us : List U} {ds : List D} {N M : Mm} {E : EU} {Ed : EK} {Q : QU} {Qd : QD} (w : Wd P N M) (r : RUs P N us ds) (e : V.gv g = .cla (some (n, sp, dfl))) (h1 : k ≤ n) (h2 : n - k ≤ dfl.length) (h3 : us.length = k)
    (h : sp (us ++ dfl.drop (dfl.length - (n - k))) E fun ks us' => Q (.obj g ks us')) (kq : KQ P N M Q Qd) (kx : KX P N M E Ed) : mkD (Γ.gv g) k ds M Ed Qd := by
  have q := R.gv g
  rw [e] at q
  cases e2 : Γ.gv g <;> rw [e2] at q <;> simp only [VGok] at q
  rename_i C i
  obtain ⟨rfl, q⟩ := q
  cases i with
  | none => exact q.elim
  | some t =>
    obtain ⟨n', sp', dfl'⟩ := t
    obtain ⟨rfl, hd, hs⟩ := q
    have hl := (hd P N).length
    refine ⟨h1, by omega, by rw [← r.length]; exact h3, fun p hp => hs _ _ _ _ ⟨P.hd, p, _, _, N, E, _, rfl, Mm.put_same, le_none w.le hp, fun q e => (w.w q e).ne hp, (w.own hp _).wd, ?_, h, ?_, ?_⟩⟩
    · rw [← hl]
      exact r.append ((hd _ _).drop _)
    · intro ks us' ds2 N' M' s hm hk r2 q
      have hN' : N' p = none := s.fr p (le_none w.le hp) (by rw [Mm.put_same]; simp)
      have hpn : ∀ q, P.hd = some q → p ≠ q.h ∧ p ≠ q.c := fun q e => (w.w q e).ne hp
      refine ⟨rfl, kq _ _ (N'.put p (.ins (P.cl g) (ks.zip ds2))) M' ⟨Mm.le_trans s.le (Mm.le_new hN'), fun a o h1 h2 => ?_, fun a h1 h2 => ?_, ⟨fun a o e => ?_, s.wd.w, fun q e => ?_⟩⟩ (.obj Mm.put_same hk (r2.mono (Mm.le_new hN'))) q⟩
      · have : a ≠ p := fun z => by rw [z, hp] at h2; cases h2
        exact s.ext a o this h1 (by rw [Mm.put_ne this]; exact h2)
      · have : a ≠ p := fun z => h2 (by rw [z]; exact hp)
        rw [Mm.put_ne this]
        exact s.fr a h1 (by rw [Mm.put_ne this]; exact h2)
      · by_cases z : a = p
        · subst z; rw [Mm.put_same] at e; rw [hm]; exact e
        · rw [Mm.put_ne z] at e; exact s.wd.le _ _ e
      · rw [Mm.put_ne (Ne.symm (hpn q e).1), Mm.put_ne (Ne.symm (hpn q e).2)]
        exact s.wd.nh q e
    · intro x xd N' M' s rx q
      refine kx x xd N' M' ⟨s.le, fun a o h1 h2 => ?_, fun a h1 h2 => ?_, s.wd⟩ rx q
      · have : a ≠ p := fun z => by rw [z, hp] at h2; cases h2
        exact s.ext a o this h1 (by rw [Mm.put_ne this]; exact h2)
      · have : a ≠ p := fun z => h2 (by rw [z]; exact hp)
        exact s.fr a h1 (by rw [Mm.put_ne this]; exact h2)
theorem mkk_rep (R : VRel P.cl Γ V) {g n np : Nat} {ks : List Str} {pat : List (Sum Nat U)} {sp : VSi} {dfl : List U} {us ws : List U} {ds es : List D} {N M : Mm} {E : EU} {Ed : EK} {Q : QU} {Qd : QD} (w : Wd P N M) (r : RUs P N us ds) (r2 : RUs P N ws es) (e : V.gv g = .cla (some (n, sp, dfl))) (e4 : V.kwc g np ks = some pat) (h1 : us.length = np) (h2 : ws.length = ks.length)
    (h : sp (patU pat us ws) E fun ks us' => Q (.obj g ks us')) (kq : KQ P N M Q Qd) (kx : KX P N M E Ed) : mkkD Γ g np ks ds es M Ed Qd := by
  obtain ⟨pat', e5, hp'⟩ := R.kwc _ _ _ _ e4
  have q := R.gv g
  rw [e] at q
  unfold mkkD
  cases e2 : Γ.gv g <;> rw [e2] at q <;> simp only [VGok] at q
  rename_i C i
  obtain ⟨rfl, q⟩ := q
  cases i with
  | none => exact q.elim
  | some t =>
    obtain ⟨n', sp', dfl'⟩ := t
    obtain ⟨rfl, hd, hs⟩ := q
    rw [e5]
    refine ⟨by rw [← r.length]; exact h1, by rw [← r2.length]; exact h2, fun p hp => hs _ _ _ _ ⟨P.hd, p, _, _, N, E, _, rfl, Mm.put_same, le_none w.le hp, fun q e => (w.w q e).ne hp, (w.own hp _).wd, ?_, h, ?_, ?_⟩⟩
    · exact hp' _ _ _ _ _ _ r r2
    · intro ks' us' ds2 N' M' s hm hk r2 q
      have hN' : N' p = none := s.fr p (le_none w.le hp) (by rw [Mm.put_same]; simp)
      have hpn : ∀ q, P.hd = some q → p ≠ q.h ∧ p ≠ q.c := fun q e => (w.w q e).ne hp
      refine ⟨rfl, kq _ _ (N'.put p (.ins (P.cl g) (ks'.zip ds2))) M' ⟨Mm.le_trans s.le (Mm.le_new hN'), fun a o h1 h2 => ?_, fun a h1 h2 => ?_, ⟨fun a o e => ?_, s.wd.w, fun q e => ?_⟩⟩ (.obj Mm.put_same hk (r2.mono (Mm.le_new hN'))) q⟩
      · have : a ≠ p := fun z => by rw [z, hp] at h2; cases h2
        exact s.ext a o this h1 (by rw [Mm.put_ne this]; exact h2)
      · have : a ≠ p := fun z => h2 (by rw [z]; exact hp)
        rw [Mm.put_ne this]
        exact s.fr a h1 (by rw [Mm.put_ne this]; exact h2)
      · by_cases z : a = p
        · subst z; rw [Mm.put_same] at e; rw [hm]; exact e
        · rw [Mm.put_ne z] at e; exact s.wd.le _ _ e
      · rw [Mm.put_ne (Ne.symm (hpn q e).1), Mm.put_ne (Ne.symm (hpn q e).2)]
        exact s.wd.nh q e
    · intro x xd N' M' s rx q
      refine kx x xd N' M' ⟨s.le, fun a o h1 h2 => ?_, fun a h1 h2 => ?_, s.wd⟩ rx q
      · have : a ≠ p := fun z => by rw [z, hp] at h2; cases h2
        exact s.ext a o this h1 (by rw [Mm.put_ne this]; exact h2)
      · have : a ≠ p := fun z => h2 (by rw [z]; exact hp)
        exact s.fr a h1 (by rw [Mm.put_ne this]; exact h2)
theorem seqI_rep {N M : Mm} {u : U} {d : D} {us : List U} {Q : List U → Prop} {Qd : List D → (Mm → Prop) → Mm → Prop} (w : Wd P N M) (r : RU P N u d) (h : seqU u = some us) (q : ∀ ds (G : Mm → Prop), RUs P N us ds → (∀ N2 M2 : Mm, N.le N2 → N2.le M2 → G M2) → Qd ds G M) : seqI d M Qd := by
  cases r with
  | tup r => cases h; exact q _ _ r fun _ _ _ _ => trivial
  | lst a r => cases h; exact ⟨_, .inl (w.le _ _ a), q _ _ r fun N2 M2 l1 l2 => .inl (l2 _ _ (l1 _ _ a))⟩
  | _ => cases h
theorem kwc_rep (R : VRel P.cl Γ V) {g n : Nat} {ks : List Str} {pat : List (Sum Nat U)} {np : Nat} {sp : VSp} {dfl us ws : List U} {ds es : List D} {N M : Mm} {E : EU} {Ed : EK} {Q : QU} {Qd : QD} (w : Wd P N M) (r : RUs P N us ds) (r2 : RUs P N ws es) (e : V.gv g = .fn n sp dfl) (e2 : V.kwc g np ks = some pat) (h1 : us.length = np) (h2 : ws.length = ks.length)
    (h : sp (patU pat us ws) E Q) (kq : KQ P N M Q Qd) (kx : KX P N M E Ed) : kwD Γ g np ks ds es M Ed Qd := by
  have q := R.gv g
  rw [e] at q
  cases e3 : Γ.gv g <;> rw [e3] at q <;> simp only [VGok] at q
  obtain ⟨rfl, hd, hs⟩ := q
  obtain ⟨pat', e4, hp⟩ := R.kwc _ _ _ _ e2
  unfold kwD
  rw [e3, e4]
  exact ⟨by rw [← r.length]; exact h1, by rw [← r2.length]; exact h2, hs _ _ _ _ ⟨P.hd, _, N, E, Q, w, hp _ _ _ _ _ _ r r2, h, kq, kx⟩⟩
end
section
variable {P : Pl} {Γ : Gm} {V : VM}
mutual
theorem sE (R : VRel P.cl Γ V) : ∀ (e : Ex) {ρ : EnU} {ρd : DEnv} {E : EU} {Ed : EK} {Q : QU} {Qd : QD} {N M : Mm}, vE V e ρ E Q → Ct P Γ V ρ ρd E Ed N M → KQ P N M Q Qd → evE Γ e ρd M Ed Qd
  | .var i, ρ, ρd, E, Ed, Q, Qd, N, M, h, c, k => by
    simp only [vE] at h
    split at h
    · rename_i u e
      obtain ⟨d, h1, r⟩ := c.r.at_ i u e
      simp only [evE, h1]
      exact k.here c.w r h
    · exact h.elim
  | .int i, ρ, ρd, E, Ed, Q, Qd, N, M, h, c, k => by simp only [vE] at h; simp only [evE]; exact k.here c.w (.int i) h
  | .bl i, ρ, ρd, E, Ed, Q, Qd, N, M, h, c, k => by simp only [vE] at h; simp only [evE]; exact k.here c.w (.bl i) h
  | .non, ρ, ρd, E, Ed, Q, Qd, N, M, h, c, k => by simp only [vE] at h; simp only [evE]; exact k.here c.w .non h
  | .str i, ρ, ρd, E, Ed, Q, Qd, N, M, h, c, k => by simp only [vE] at h; simp only [evE]; exact k.here c.w (.str i) h
  | .gl g, ρ, ρd, E, Ed, Q, Qd, N, M, h, c, k => by
    simp only [vE] at h
    split at h
    · rename_i u e
      have q := R.gv g
      rw [e] at q
      simp only [evE]
      cases e2 : Γ.gv g <;> rw [e2] at q <;> simp only [VGok] at q
      exact k.here c.w (q _ _) h
    · exact h.elim
  | .op o a b, ρ, ρd, E, Ed, Q, Qd, N, M, h, c, k => by
    simp only [vE] at h
    simp only [evE]
    exact sE R a h c fun x dx N1 M1 s1 rx h => sE R b h (c.on s1) fun y dy N2 M2 s2 ry h => op_rep s2.wd (rx.mono s2.le) ry h (k.on (s1.trans s2))
  | .neg a, ρ, ρd, E, Ed, Q, Qd, N, M, h, c, k => by
    simp only [vE] at h
    simp only [evE]
    refine sE R a h c fun x dx N1 M1 s1 rx h => ?_
    cases x <;> try (exact h.elim)
    cases rx
    exact k.on s1 |>.here s1.wd (.int _) h
  | .cmp o a b, ρ, ρd, E, Ed, Q, Qd, N, M, h, c, k => by
    simp only [vE] at h
    simp only [evE]
    exact sE R a h c fun x dx N1 M1 s1 rx h => sE R b h (c.on s1) fun y dy N2 M2 s2 ry ⟨b, hb, q⟩ => ⟨b, cmp_rep s2.wd.le (rx.mono s2.le) ry hb, (k.on (s1.trans s2)).here s2.wd (.bl _) q⟩
  | .chn o1 o2 a b z, ρ, ρd, E, Ed, Q, Qd, N, M, h, c, k => by
    simp only [vE] at h
    simp only [evE]
    refine sE R a h c fun x dx N1 M1 s1 rx h => sE R b h (c.on s1) fun y dy N2 M2 s2 ry ⟨b, hb, q⟩ => ⟨b, cmp_rep s2.wd.le (rx.mono s2.le) ry hb, ?_⟩
    cases b with
    | false => exact (k.on (s1.trans s2)).here s2.wd (.bl _) q
    | true => exact sE R z (show vE V z ρ E _ from q) ((c.on s1).on s2) fun y dy N3 M3 s3 rz ⟨b, hb, q⟩ => ⟨b, cmp_rep s3.wd.le (ry.mono s3.le) rz hb, (k.on ((s1.trans s2).trans s3)).here s3.wd (.bl _) q⟩
  | .bop o es, ρ, ρd, E, Ed, Q, Qd, N, M, h, c, k => by
    simp only [vE] at h
    simp only [evE]
    exact sB R o es h c k
  | .not a, ρ, ρd, E, Ed, Q, Qd, N, M, h, c, k => by
    simp only [vE] at h
    simp only [evE]
    refine sE R a h c fun x dx N1 M1 s1 rx h => ?_
    have h : ∃ k, truU x = some k ∧ Q (.bl (!k)) := by
      cases x <;> first | exact h | exact ⟨_, rfl, h⟩
    obtain ⟨b, hb, h⟩ := h
    have hb := tru_rep s1.wd.le rx hb
    have q := (k.on s1).here s1.wd (.bl _) h
    cases dx <;> first | exact ⟨b, hb, q⟩ | (cases hb; exact q)
  | .ite t a b, ρ, ρd, E, Ed, Q, Qd, N, M, h, c, k => by
    simp only [vE] at h
    simp only [evE]
    refine sT R t h c fun b N1 M1 s1 h => ?_
    cases b with
    | true => exact sE R a (show vE V a ρ E _ from h) (c.on s1) (k.on s1)
    | false => exact sE R b (show vE V b ρ E _ from h) (c.on s1) (k.on s1)
  | .tup es, ρ, ρd, E, Ed, Q, Qd, N, M, h, c, k => by
    simp only [vE] at h
    simp only [evE]
    exact sEs R es h c fun us ds N1 M1 s1 r h => ⟨by rw [← r.length]; exact h.1, (k.on s1).here s1.wd (.tup r) h.2⟩
  | .lst es, ρ, ρd, E, Ed, Q, Qd, N, M, h, c, k => by
    simp only [vE] at h
    simp only [evE]
    exact sEs R es h c fun us ds N1 M1 s1 r h => ⟨by rw [← r.length]; exact h.1, (k.on s1).list s1.wd r h.2⟩
  | .ix a b, ρ, ρd, E, Ed, Q, Qd, N, M, h, c, k => by
    simp only [vE] at h
    simp only [evE]
    exact sE R a h c fun x dx N1 M1 s1 rx h => sE R b h (c.on s1) fun y dy N2 M2 s2 ry h => ix_rep s2.wd (rx.mono s2.le) ry h (k.on (s1.trans s2))
  | .slc a lo hi, ρ, ρd, E, Ed, Q, Qd, N, M, h, c, k => by
    simp only [vE] at h
    simp only [evE]
    exact sE R a h c fun x dx N1 M1 s1 rx h => sO R lo h (c.on s1) fun l N2 M2 s2 h => sO R hi h ((c.on s1).on s2) fun u N3 M3 s3 h => slc_rep s3.wd (rx.mono (Mm.le_trans s2.le s3.le)) h (k.on ((s1.trans s2).trans s3))
  | .call g es, ρ, ρd, E, Ed, Q, Qd, N, M, h, c, k => by
    simp only [vE] at h
    simp only [evE]
    exact sEs R es h c fun us ds N1 M1 s1 r h => call_rep R s1.wd r h (k.on s1) (c.x.on s1)
  | .bi b es, ρ, ρd, E, Ed, Q, Qd, N, M, h, c, k => by
    simp only [vE] at h
    simp only [evE]
    exact sEs R es h c fun us ds N1 M1 s1 r h => bi_rep s1.wd r h (k.on s1)
  | .mth _ _ _, ρ, ρd, E, Ed, Q, Qd, N, M, h, c, k => by simp only [vE] at h
  | .fld a f, ρ, ρd, E, Ed, Q, Qd, N, M, h, c, k => by
    simp only [vE] at h
    simp only [evE]
    refine sE R a h c fun x dx N1 M1 s1 rx h => ?_
    cases x <;> try (exact h.elim)
    obtain ⟨hf, u, hu, q⟩ := h
    cases rx with
    | obj a1 b1 c1 =>
      obtain ⟨d, hd, r⟩ := zip_look c1 hu
      exact ⟨_, _, d, s1.wd.le _ _ a1, R.fld _ _ hf, hd, (k.on s1).here s1.wd r q⟩
  | .lc own tg it t e, ρ, ρd, E, Ed, Q, Qd, N, M, h, c, k => by
    simp only [vE] at h
    simp only [evE]
    obtain ⟨hx, h⟩ := h
    refine sI R it h c fun us ds G N1 M1 s1 r hG h => fun p hp => ?_
    have hpn : ∀ q, P.hd = some q → p ≠ q.h ∧ p ≠ q.c := fun q e => (s1.wd.w q e).ne hp
    have s2 := s1.wd.own hp (.lst [])
    refine comp_rep (N0 := N1) hG ?hs (Mm.le_refl _) s2.wd (le_none s1.wd.le hp) Mm.put_same hpn r .nil h ?hk
    case hs =>
      intro u d N2 M2 K Kd l w ru h kk
      obtain ⟨bs, hb, hs⟩ := h
      refine tg_rep hx tg hb ru (((c.on s1).r.mono l).wipe hx own) fun ρ2 R2 => ?_
      refine sC R t hs ⟨R2, w, KX.f⟩ fun b N3 M3 s3 h => ?_
      cases b with
      | true => exact sE R e (show vE V e _ EF _ from h) ⟨R2.mono s3.le, s3.wd, KX.f⟩ fun x dx N4 M4 s4 rx h => kk (some x) (some dx) N4 M4 (s3.trans s4) rx h
      | false => exact kk none none N3 M3 s3 trivial h
    case hk =>
      intro acc accd N' M' l e2 f w n m ra q
      have s : Stp P N1 M1 (N'.put p (.lst accd)) M' := by
        refine ⟨Mm.le_trans l (Mm.le_new n), fun a o h1 h2 => ?_, fun a h1 h2 => ?_, ⟨fun a o h => ?_, w.w, fun q e => ?_⟩⟩
        · have : a ≠ p := fun z => by rw [z, hp] at h2; cases h2
          exact e2 a o this h1 (by rw [Mm.put_ne this]; exact h2)
        · have : a ≠ p := fun z => h2 (by rw [z]; exact hp)
          rw [Mm.put_ne this]
          exact f a h1 (by rw [Mm.put_ne this]; exact h2)
        · by_cases z : a = p
          · subst z; rw [Mm.put_same] at h; rw [m]; exact h
          · rw [Mm.put_ne z] at h; exact w.le _ _ h
        · rw [Mm.put_ne (Ne.symm (hpn q e).1), Mm.put_ne (Ne.symm (hpn q e).2)]
          exact w.nh q e
      exact k _ _ _ _ (s1.trans s) (.lst Mm.put_same (ra.mono (Mm.le_new n))) q
  | .xfl a f, ρ, ρd, E, Ed, Q, Qd, N, M, h, c, k => by
    simp only [vE] at h
    split at h
    · rename_i j x i e
      obtain ⟨rfl, hf, hk, u, hu, q⟩ := h
      obtain ⟨p, C, dx, h1, h2, h3⟩ := c.r.ex _ _ e
      simp only [evE, h2, h1]
      obtain ⟨hc, h4⟩ := h3
      have hc : C = P.cl x.g := hc
      subst hc
      rcases h4 with h4 | ⟨dd, ds, h4, h5, h6, h7⟩
      · exact absurd h4.1 hk
      · have h4 : dx = some dd := h4
        subst h4
        obtain ⟨d, hd, r⟩ := zip_look h7 hu
        exact ⟨rfl, R.xfl _ _ hf, _, d, c.w.le _ _ h5, hd, k.here c.w r q⟩
    · exact h.elim
  | .xis a g, ρ, ρd, E, Ed, Q, Qd, N, M, h, c, k => by
    simp only [vE] at h
    split at h
    · rename_i j x i e
      obtain ⟨rfl, hcl, b, hb, q⟩ := h
      obtain ⟨p, C, dx, h1, h2, h3⟩ := c.r.ex _ _ e
      simp only [evE, h2, xisD, h1, err_cls R hcl]
      obtain ⟨hc, h4⟩ := h3
      have hc : C = P.cl x.g := hc
      subst hc
      refine ⟨trivial, fun dd hd => ?_, b, R.sub _ _ _ hb, k.here c.w (.bl _) q⟩
      rcases h4 with h4 | ⟨dd', ds, h4, h5, h6, h7⟩
      · have h4 : dx = none := h4.2
        rw [h4] at hd; cases hd
      · have h4 : dx = some dd' := h4
        rw [h4] at hd; cases hd
        exact ⟨_, c.w.le _ _ h5⟩
    · exact h.elim
  | .tyn t, ρ, ρd, E, Ed, Q, Qd, N, M, h, c, k => by simp only [vE] at h; simp only [evE]; exact k.here c.w (.ty _) h
  | .callk g es ks zs, ρ, ρd, E, Ed, Q, Qd, N, M, h, c, k => by
    simp only [vE] at h
    split at h
    · rename_i n sp dfl pat e1 e2
      simp only [evE]
      obtain ⟨pat', e4, hp⟩ := R.kwc _ _ _ _ e2
      refine ⟨by rw [e4]; rfl, sEs R es h c fun us ds N1 M1 s1 r h => sEs R zs h (c.on s1) fun ws es' N2 M2 s2 r2 h => kwc_rep R s2.wd (r.mono s2.le) r2 e1 e2 h.1 h.2.1 h.2.2 (k.on (s1.trans s2)) (c.x.on (s1.trans s2))⟩
    · exact h.elim
  | .rev a, ρ, ρd, E, Ed, Q, Qd, N, M, h, c, k => by
    simp only [vE] at h
    simp only [evE]
    refine sE R a h c fun x dx N1 M1 s1 rx h => ?_
    cases x <;> try (exact h.elim)
    · cases rx with
      | tup b1 => exact (k.on s1).here s1.wd (.tup b1.rev) h
    · cases rx with
      | lst a1 b1 => exact ⟨_, .inl (s1.wd.le _ _ a1), (k.on s1).list s1.wd b1.rev h⟩
  | .lrv a, ρ, ρd, E, Ed, Q, Qd, N, M, h, c, k => by
    simp only [vE] at h
    simp only [evE]
    refine sE R a h c fun x dx N1 M1 s1 rx h => ?_
    cases x <;> try (exact h.elim)
    cases rx with
    | lst a1 b1 => exact ⟨_, .inl (s1.wd.le _ _ a1), (k.on s1).list s1.wd b1.rev h⟩
  | .mk g es, ρ, ρd, E, Ed, Q, Qd, N, M, h, c, k => by
    simp only [vE] at h
    split at h
    · rename_i n sp dfl e
      simp only [evE]
      obtain ⟨h1, h2, h⟩ := h
      refine ⟨?_, sEs R es h c fun us ds N1 M1 s1 r h => mk_rep R s1.wd r e h1 h2 h.1 h.2 (k.on s1) (c.x.on s1)⟩
      have q := R.gv g
      rw [e] at q
      cases e2 : Γ.gv g <;> rw [e2] at q <;> simp only [VGok] at q
      rename_i C i
      cases i with
      | none => exact q.2.elim
      | some t =>
        obtain ⟨rfl, rfl, hd, hs⟩ := q
        have hl := (hd P N).length
        show _ - _ ≤ _
        omega
    · exact h.elim
  | .mkk g es ks zs, ρ, ρd, E, Ed, Q, Qd, N, M, h, c, k => by
    simp only [vE] at h
    split at h
    · rename_i n sp dfl pat e1 e2
      simp only [evE]
      obtain ⟨pat', e4, hp⟩ := R.kwc _ _ _ _ e2
      refine ⟨?_, by rw [e4]; rfl, sEs R es h c fun us ds N1 M1 s1 r h => sEs R zs h (c.on s1) fun ws es' N2 M2 s2 r2 h => mkk_rep R s2.wd (r.mono s2.le) r2 e1 e2 h.1 h.2.1 h.2.2 (k.on (s1.trans s2)) (c.x.on (s1.trans s2))⟩
      have q := R.gv g
      rw [e1] at q
      cases e3 : Γ.gv g <;> rw [e3] at q <;> simp only [VGok] at q
      rename_i C i
      cases i with
      | none => exact q.2.elim
      | some t => trivial
    · exact h.elim
  | .mc g a m es, ρ, ρd, E, Ed, Q, Qd, N, M, h, c, k => by
    simp only [vE] at h
    obtain ⟨h1, h2, h⟩ := h
    simp only [evE, ins_cls R h1]
    exact ⟨mtN_rep R h2, sE R a h c fun x dx N1 M1 s1 rx h => ⟨obj_insM s1.wd.le h.1 h.2.1 rx, sEs R es h.2.2 (c.on s1) fun us ds N2 M2 s2 r h => mt_rep R s2.wd (rx.mono s2.le) r h2 h (k.on (s1.trans s2)) (c.x.on (s1.trans s2))⟩⟩
  | .prp g a f, ρ, ρd, E, Ed, Q, Qd, N, M, h, c, k => by
    simp only [vE] at h
    obtain ⟨h1, h⟩ := h
    simp only [evE, ins_cls R h1]
    split at h
    · rename_i sp e
      obtain ⟨sp', e2, hs⟩ := R.pr _ _ _ e
      exact ⟨by rw [e2]; rfl, sE R a h c fun x dx N1 M1 s1 rx h => ⟨obj_ins s1.wd.le h.1 rx, pr_rep R s1.wd rx e h.2 (k.on s1)⟩⟩
    · exact h.elim
  | .lno g a, ρ, ρd, E, Ed, Q, Qd, N, M, h, c, k => by
    simp only [vE] at h
    obtain ⟨h1, h2, h⟩ := h
    simp only [evE, ins_cls R h1]
    refine ⟨mtN_rep R h2, sE R a h c fun x dx N1 M1 s1 rx h => ⟨obj_ins s1.wd.le h.1 rx, mt_rep R s1.wd rx .nil h2 h.2 (fun d dd N2 M2 s2 rd h => ?_) KX.ff⟩⟩
    obtain ⟨i, rfl, i0, i1, q⟩ := h
    cases rd
    exact ⟨i, rfl, i0, i1, (k.on (s1.trans s2)).here s2.wd (.int _) q⟩
  | .iso a g, ρ, ρd, E, Ed, Q, Qd, N, M, h, c, k => by
    simp only [vE] at h
    obtain ⟨h1, h⟩ := h
    simp only [evE, ins_cls R h1]
    refine sE R a h c fun x dx N1 M1 s1 rx ⟨t, b, ht, hb, q⟩ => ?_
    unfold isoD
    rw [ty_repD s1.wd.le rx ht]
    simp only [R.isi _ _ _ hb]
    exact (k.on s1).here s1.wd (.bl _) q
  | .oeq g a b, ρ, ρd, E, Ed, Q, Qd, N, M, h, c, k => by
    simp only [vE] at h
    obtain ⟨h1, h2, h⟩ := h
    simp only [evE, ins_cls R h1]
    refine ⟨mtN_rep R h2, sE R a h c fun x dx N1 M1 s1 rx h => sE R b h (c.on s1) fun y dy N2 M2 s2 ry h => ?_⟩
    obtain ⟨ho, ⟨t, ht, hn⟩, h⟩ := h
    refine ⟨obj_ins s2.wd.le ho (rx.mono s2.le), ⟨_, ty_repD s2.wd.le ry ht, R.nf _ _ hn⟩, mt_rep R s2.wd (rx.mono s2.le) (.cons ry .nil) h2 h (fun d dd N3 M3 s3 rd h => ?_) KX.ff⟩
    obtain ⟨i, rfl, q⟩ := h
    cases rd
    exact ⟨i, rfl, (k.on ((s1.trans s2).trans s3)).here s3.wd (.bl _) q⟩
  | .one g a b, ρ, ρd, E, Ed, Q, Qd, N, M, h, c, k => by
    simp only [vE] at h
    obtain ⟨h1, h2, h3, h⟩ := h
    simp only [evE, ins_cls R h1]
    refine ⟨mtN_rep R h2, R.nf (.inl "!=") _ h3, sE R a h c fun x dx N1 M1 s1 rx h => sE R b h (c.on s1) fun y dy N2 M2 s2 ry h => ?_⟩
    obtain ⟨ho, ⟨t, ht, hn⟩, h⟩ := h
    refine ⟨obj_ins s2.wd.le ho (rx.mono s2.le), ⟨_, ty_repD s2.wd.le ry ht, R.nf _ _ hn⟩, mt_rep R s2.wd (rx.mono s2.le) (.cons ry .nil) h2 h (fun d dd N3 M3 s3 rd h => ?_) KX.ff⟩
    obtain ⟨i, rfl, q⟩ := h
    cases rd
    exact ⟨i, rfl, (k.on ((s1.trans s2).trans s3)).here s3.wd (.bl _) q⟩
  | .fmt a, ρ, ρd, E, Ed, Q, Qd, N, M, h, c, k => by
    simp only [vE] at h
    simp only [evE]
    exact sE R a h c fun x dx N1 M1 s1 rx h => fmt_rep s1.wd rx h (k.on s1)
  | .fst es, ρ, ρd, E, Ed, Q, Qd, N, M, h, c, k => by
    simp only [vE] at h
    simp only [evE]
    exact sJ R es _ h c fun out N1 M1 s1 h => (k.on s1).here s1.wd (.str _) h
  | .smt m a e, ρ, ρd, E, Ed, Q, Qd, N, M, h, c, k => by
    simp only [vE] at h
    simp only [evE]
    refine sE R a h c fun x dx N1 M1 s1 rx ⟨⟨z, hz⟩, h⟩ => ?_
    subst hz
    cases rx
    exact ⟨⟨z, rfl⟩, sE R e h (c.on s1) fun y dy N2 M2 s2 ry h => smt_rep s2.wd (.str _) ry h (k.on (s1.trans s2))⟩
theorem sJ (R : VRel P.cl Γ V) : ∀ (es : Exs) (acc : Str) {ρ : EnU} {ρd : DEnv} {E : EU} {Ed : EK} {Q : Str → Prop} {Qd : Str → Mm → Prop} {N M : Mm}, vJ V es acc ρ E Q → Ct P Γ V ρ ρd E Ed N M → KB P N M Q Qd → evJ Γ es acc ρd M Ed Qd
  | .nil, acc, ρ, ρd, E, Ed, Q, Qd, N, M, h, c, k => by simp only [vJ] at h; simp only [evJ]; exact k _ _ _ (Stp.refl c.w) h
  | .cons e es, acc, ρ, ρd, E, Ed, Q, Qd, N, M, h, c, k => by
    simp only [vJ] at h
    simp only [evJ]
    refine sE R e h c fun x dx N1 M1 s1 rx ⟨y, hy, hl, h⟩ => ?_
    subst hy
    cases rx
    exact ⟨y, rfl, hl, sJ R es _ h (c.on s1) (k.on s1)⟩
theorem sEs (R : VRel P.cl Γ V) : ∀ (es : Exs) {ρ : EnU} {ρd : DEnv} {E : EU} {Ed : EK} {Q : List U → Prop} {Qd : List D → Mm → Prop} {N M : Mm}, vEs V es ρ E Q → Ct P Γ V ρ ρd E Ed N M → KL P N M Q Qd → evEs Γ es ρd M Ed Qd
  | .nil, ρ, ρd, E, Ed, Q, Qd, N, M, h, c, k => by simp only [vEs] at h; simp only [evEs]; exact k _ _ _ _ (Stp.refl c.w) .nil h
  | .cons e es, ρ, ρd, E, Ed, Q, Qd, N, M, h, c, k => by
    simp only [vEs] at h
    simp only [evEs]
    exact sE R e h c fun x dx N1 M1 s1 rx h => sEs R es h (c.on s1) fun us ds N2 M2 s2 r h => k _ _ _ _ (s1.trans s2) (.cons (rx.mono s2.le) r) h
theorem sO (R : VRel P.cl Γ V) : ∀ (e : Exo) {ρ : EnU} {ρd : DEnv} {E : EU} {Ed : EK} {Q : Option Int → Prop} {Qd : Option Int → Mm → Prop} {N M : Mm}, vO V e ρ E Q → Ct P Γ V ρ ρd E Ed N M → KB P N M Q Qd → evO Γ e ρd M Ed Qd
  | .none, ρ, ρd, E, Ed, Q, Qd, N, M, h, c, k => by simp only [vO] at h; simp only [evO]; exact k _ _ _ (Stp.refl c.w) h
  | .some e, ρ, ρd, E, Ed, Q, Qd, N, M, h, c, k => by
    simp only [vO] at h
    simp only [evO]
    refine sE R e h c fun x dx N1 M1 s1 rx h => ?_
    cases x <;> try (exact h.elim)
    cases rx
    exact k _ _ _ s1 h
theorem sC (R : VRel P.cl Γ V) : ∀ (e : Teo) {ρ : EnU} {ρd : DEnv} {E : EU} {Ed : EK} {Q : Bool → Prop} {Qd : Bool → Mm → Prop} {N M : Mm}, vC V e ρ E Q → Ct P Γ V ρ ρd E Ed N M → KB P N M Q Qd → evC Γ e ρd M Ed Qd
  | .none, ρ, ρd, E, Ed, Q, Qd, N, M, h, c, k => by simp only [vC] at h; simp only [evC]; exact k _ _ _ (Stp.refl c.w) h
  | .some t, ρ, ρd, E, Ed, Q, Qd, N, M, h, c, k => by
    simp only [vC] at h
    simp only [evC]
    exact sT R t h c k
theorem sB (R : VRel P.cl Γ V) (o : BoolOp) : ∀ (es : Exs) {ρ : EnU} {ρd : DEnv} {E : EU} {Ed : EK} {Q : QU} {Qd : QD} {N M : Mm}, vB V o es ρ E Q → Ct P Γ V ρ ρd E Ed N M → KQ P N M Q Qd → evB Γ o es ρd M Ed Qd
  | .nil, ρ, ρd, E, Ed, Q, Qd, N, M, h, c, k => by simp only [vB] at h
  | .cons e .nil, ρ, ρd, E, Ed, Q, Qd, N, M, h, c, k => by
    simp only [vB] at h
    simp only [evB]
    exact sE R e h c k
  | .cons e (.cons e2 es), ρ, ρd, E, Ed, Q, Qd, N, M, h, c, k => by
    unfold vB at h
    unfold evB
    refine sE R e h c fun x dx N1 M1 s1 rx h => ?_
    cases x <;> try (exact h.elim)
    · rename_i b
      cases rx
      cases b <;> cases o
      · exact (k.on s1).here s1.wd (.bl _) h
      · exact sB R .Or (.cons e2 es) (show vB V .Or (.cons e2 es) ρ E Q from h) (c.on s1) (k.on s1)
      · exact sB R .And (.cons e2 es) (show vB V .And (.cons e2 es) ρ E Q from h) (c.on s1) (k.on s1)
      · exact (k.on s1).here s1.wd (.bl _) h
    · rename_i i
      cases rx
      cases o with
      | And => exact h.elim
      | Or =>
        rcases h with ⟨h0, h⟩ | ⟨h0, h⟩
        · exact .inl ⟨h0, (k.on s1).here s1.wd (.int _) h⟩
        · exact .inr ⟨h0, sB R .Or (.cons e2 es) (show vB V .Or (.cons e2 es) ρ E Q from h) (c.on s1) (k.on s1)⟩
theorem sT (R : VRel P.cl Γ V) : ∀ (e : Te) {ρ : EnU} {ρd : DEnv} {E : EU} {Ed : EK} {Q : Bool → Prop} {Qd : Bool → Mm → Prop} {N M : Mm}, vT V e ρ E Q → Ct P Γ V ρ ρd E Ed N M → KB P N M Q Qd → evT Γ e ρd M Ed Qd
  | .val e, ρ, ρd, E, Ed, Q, Qd, N, M, h, c, k => by
    simp only [vT] at h
    simp only [evT]
    exact sE R e h c fun x dx N1 M1 s1 rx ⟨b, hb, q⟩ => ⟨b, tru_rep s1.wd.le rx hb, k _ _ _ s1 q⟩
  | .bop o ts, ρ, ρd, E, Ed, Q, Qd, N, M, h, c, k => by
    simp only [vT] at h
    simp only [evT]
    exact sBT R o ts h c k
  | .oeq g a b, ρ, ρd, E, Ed, Q, Qd, N, M, h, c, k => by
    simp only [vT] at h
    obtain ⟨h1, h2, h⟩ := h
    simp only [evT, ins_cls R h1]
    refine ⟨mtN_rep R h2, sE R a h c fun x dx N1 M1 s1 rx h => sE R b h (c.on s1) fun y dy N2 M2 s2 ry h => ?_⟩
    obtain ⟨ho, ⟨t, ht, hn⟩, h⟩ := h
    refine ⟨obj_ins s2.wd.le ho (rx.mono s2.le), ⟨_, ty_repD s2.wd.le ry ht, R.nf _ _ hn⟩, mt_rep R s2.wd (rx.mono s2.le) (.cons ry .nil) h2 h (fun d dd N3 M3 s3 rd h => ?_) KX.ff⟩
    obtain ⟨i, rfl, q⟩ := h
    cases rd
    exact ⟨i, rfl, k _ _ _ ((s1.trans s2).trans s3) q⟩
  | .not a, ρ, ρd, E, Ed, Q, Qd, N, M, h, c, k => by
    simp only [vT] at h
    simp only [evT]
    exact sT R a h c fun b N1 M1 s1 h => k _ _ _ s1 h
  | .cmp o a b, ρ, ρd, E, Ed, Q, Qd, N, M, h, c, k => by
    simp only [vT] at h
    simp only [evT]
    exact sE R a h c fun x dx N1 M1 s1 rx h => sE R b h (c.on s1) fun y dy N2 M2 s2 ry ⟨b, hb, q⟩ => ⟨b, cmp_rep s2.wd.le (rx.mono s2.le) ry hb, k _ _ _ (s1.trans s2) q⟩
  | .chn o1 o2 a b z, ρ, ρd, E, Ed, Q, Qd, N, M, h, c, k => by
    simp only [vT] at h
    simp only [evT]
    refine sE R a h c fun x dx N1 M1 s1 rx h => sE R b h (c.on s1) fun y dy N2 M2 s2 ry ⟨b, hb, q⟩ => ⟨b, cmp_rep s2.wd.le (rx.mono s2.le) ry hb, ?_⟩
    cases b with
    | false => exact k _ _ _ (s1.trans s2) q
    | true => exact sE R z (show vE V z ρ E _ from q) ((c.on s1).on s2) fun y dy N3 M3 s3 rz ⟨b, hb, q⟩ => ⟨b, cmp_rep s3.wd.le (ry.mono s3.le) rz hb, k _ _ _ ((s1.trans s2).trans s3) q⟩
theorem sBT (R : VRel P.cl Γ V) (o : BoolOp) : ∀ (es : Tes) {ρ : EnU} {ρd : DEnv} {E : EU} {Ed : EK} {Q : Bool → Prop} {Qd : Bool → Mm → Prop} {N M : Mm}, vBT V o es ρ E Q → Ct P Γ V ρ ρd E Ed N M → KB P N M Q Qd → evBT Γ o es ρd M Ed Qd
  | .nil, ρ, ρd, E, Ed, Q, Qd, N, M, h, c, k => by simp only [vBT] at h
  | .cons e .nil, ρ, ρd, E, Ed, Q, Qd, N, M, h, c, k => by
    simp only [vBT] at h
    simp only [evBT]
    exact sT R e h c k
  | .cons e (.cons e2 es), ρ, ρd, E, Ed, Q, Qd, N, M, h, c, k => by
    unfold vBT at h
    unfold evBT
    refine sT R e h c fun b N1 M1 s1 h => ?_
    cases b <;> cases o
    · exact k _ _ _ s1 h
    · exact sBT R .Or (.cons e2 es) (show vBT V .Or (.cons e2 es) ρ E Q from h) (c.on s1) (k.on s1)
    · exact sBT R .And (.cons e2 es) (show vBT V .And (.cons e2 es) ρ E Q from h) (c.on s1) (k.on s1)
    · exact k _ _ _ s1 h
theorem sI (R : VRel P.cl Γ V) : ∀ (e : Si) {ρ : EnU} {ρd : DEnv} {E : EU} {Ed : EK} {Q : List U → Prop} {Qd : List D → (Mm → Prop) → Mm → Prop} {N M : Mm}, vI V e ρ E Q → Ct P Γ V ρ ρd E Ed N M → KI P N M Q Qd → evI Γ e ρd M Ed Qd
  | .seq e, ρ, ρd, E, Ed, Q, Qd, N, M, h, c, k => by
    simp only [vI] at h
    simp only [evI]
    exact sE R e h c fun x dx N1 M1 s1 rx ⟨us, hu, q⟩ => seqI_rep s1.wd rx hu (Q := Q) fun ds G r hG => k _ _ _ _ _ s1 r hG q
  | .rng1 a, ρ, ρd, E, Ed, Q, Qd, N, M, h, c, k => by
    simp only [vI] at h
    simp only [evI]
    refine sE R a h c fun x dx N1 M1 s1 rx h => ?_
    cases x <;> try (exact h.elim)
    cases rx
    exact ⟨h.1, k _ _ _ _ _ s1 RUs.rng (fun _ _ _ _ => trivial) h.2⟩
  | .rng2 a b, ρ, ρd, E, Ed, Q, Qd, N, M, h, c, k => by
    simp only [vI] at h
    simp only [evI]
    refine sE R a h c fun x dx N1 M1 s1 rx h => sE R b h (c.on s1) fun y dy N2 M2 s2 ry h => ?_
    cases x <;> cases y <;> try (exact h.elim)
    cases rx; cases ry
    exact ⟨h.1, h.2.1, k _ _ _ _ _ (s1.trans s2) RUs.rng (fun _ _ _ _ => trivial) h.2.2⟩
  | .rng3 a b e, ρ, ρd, E, Ed, Q, Qd, N, M, h, c, k => by
    simp only [vI] at h
    simp only [evI]
    refine sE R a h c fun x dx N1 M1 s1 rx h => sE R b h (c.on s1) fun y dy N2 M2 s2 ry h => sE R e h ((c.on s1).on s2) fun z dz N3 M3 s3 rz h => ?_
    cases x <;> cases y <;> cases z <;> try (exact h.elim)
    cases rx; cases ry; cases rz
    obtain ⟨n, hn, q⟩ := h
    exact ⟨n, hn, k _ _ _ _ _ ((s1.trans s2).trans s3) RUs.rngC (fun _ _ _ _ => trivial) q⟩
  | .enm a, ρ, ρd, E, Ed, Q, Qd, N, M, h, c, k => by
    simp only [vI] at h
    simp only [evI]
    exact sE R a h c fun x dx N1 M1 s1 rx ⟨us, hu, q⟩ => seqI_rep s1.wd rx hu (Q := Q) fun ds G r hG => k _ _ _ _ _ s1 (r.enm 0) hG q
  | .rev a, ρ, ρd, E, Ed, Q, Qd, N, M, h, c, k => by
    simp only [vI] at h
    simp only [evI]
    exact sE R a h c fun x dx N1 M1 s1 rx ⟨us, hu, q⟩ => seqI_rep s1.wd rx hu (Q := Q) fun ds G r hG => k _ _ _ _ _ s1 r.rev hG q
  | .zip a b, ρ, ρd, E, Ed, Q, Qd, N, M, h, c, k => by
    simp only [vI] at h
    simp only [evI]
    exact sE R a h c fun x dx N1 M1 s1 rx h => sE R b h (c.on s1) fun y dy N2 M2 s2 ry ⟨us, vs, hu, hv, q⟩ => seqI_rep s2.wd (rx.mono s2.le) hu (Q := Q) fun ds G r hG => seqI_rep s2.wd ry hv (Q := Q) fun es G' r' hG' => k _ _ _ _ _ (s1.trans s2) (r.zip r') (fun N2 M2 l1 l2 => ⟨hG N2 M2 l1 l2, hG' N2 M2 l1 l2⟩) q
end
end
def exFresh : Ex → Bool
  | .op .Add _ _ => true
  | .op .Mult _ _ => true
  | .lst _ => true
  | .slc _ _ _ => true
  | .bi .list _ => true
  | _ => false
def isLU : U → Bool
  | .lst _ => true
  | _ => false
section
variable {P : Pl} {N M : Mm}
theorem op_repF {o : Operator} {x y : U} {d e : D} {Q : QU} {Qd : QD} (w : Wd P N M) (r1 : RU P N x d) (r2 : RU P N y e) (h : opU o x y Q) (k1 : ∀ u d, RU P N u d → isLU u = false → Q u → Qd d M) (k2 : ∀ us ds p, RUs P N us ds → M p = none → Q (.lst us) → Qd (.ref p) (M.put p (.lst ds))) : opD o d e M Qd := by
  cases o with
  | Add =>
    cases x <;> cases y <;> try (exact h.elim)
    · cases r1; cases r2; exact k1 _ _ (.int _) rfl h
    · cases r1; cases r2; exact ⟨h.1, k1 _ _ (.str _) rfl h.2⟩
    · cases r1 with
      | tup a => cases r2 with
        | tup b => exact ⟨by rw [← a.length, ← b.length]; exact h.1, k1 _ _ (.tup (a.append b)) rfl h.2⟩
    · cases r1 with
      | lst a b => cases r2 with
        | lst a2 b2 => exact ⟨_, _, w.le _ _ a, w.le _ _ a2, by rw [← b.length, ← b2.length]; exact h.1, fun p hp => k2 _ _ p (b.append b2) hp h.2⟩
  | Sub => cases x <;> cases y <;> try (exact h.elim)
           cases r1; cases r2; exact k1 _ _ (.int _) rfl h
  | Mult =>
    cases x <;> cases y <;> try (exact h.elim)
    · cases r1; cases r2; exact ⟨h.1, k1 _ _ (.int _) rfl h.2⟩
    · cases r1 with
      | lst a b =>
        cases r2
        exact ⟨_, w.le _ _ a, h.1, h.2.1, by rw [← b.length]; exact h.2.2.1, fun p hp => k2 _ _ p (b.rep _) hp h.2.2.2⟩
  | FloorDiv => cases x <;> cases y <;> try (exact h.elim)
                cases r1; cases r2; exact ⟨h.1, k1 _ _ (.int _) rfl h.2⟩
  | Mod => cases x <;> cases y <;> try (exact h.elim)
           cases r1; cases r2; exact ⟨h.1, k1 _ _ (.int _) rfl h.2⟩
  | Pow => cases x <;> cases y <;> try (exact h.elim)
           cases r1; cases r2; exact ⟨h.1, k1 _ _ (.int _) rfl h.2⟩
  | _ => cases x <;> cases y <;> exact h.elim
theorem slc_repF {x : U} {d : D} {lo hi : Option Int} {Q : QU} {Qd : QD} (w : Wd P N M) (r1 : RU P N x d) (h : slcU x lo hi Q) (k1 : ∀ u d, RU P N u d → isLU u = false → Q u → Qd d M) (k2 : ∀ us ds p, RUs P N us ds → M p = none → Q (.lst us) → Qd (.ref p) (M.put p (.lst ds))) : slcD d lo hi M Qd := by
  cases x <;> try (exact h.elim)
  · cases r1 with
    | tup a => exact k1 _ _ (.tup (a.cut lo hi)) rfl h
  · cases r1 with
    | lst a b => exact ⟨_, .inl (w.le _ _ a), fun p hp => k2 _ _ p (b.cut lo hi) hp h⟩
theorem bil_repF {us : List U} {ds : List D} {Q : QU} {Qd : QD} (w : Wd P N M) (r : RUs P N us ds) (h : biU .list us Q) (k2 : ∀ us ds p, RUs P N us ds → M p = none → Q (.lst us) → Qd (.ref p) (M.put p (.lst ds))) : biD .list ds M Qd := by
  unfold biU at h
  split at h <;> first | (rename_i z; cases z; done) | skip
  all_goals try (exact h.elim)
  rename_i e
  obtain ⟨d, rfl, r1⟩ := r.one
  obtain ⟨xs, hx, q⟩ := h
  obtain ⟨ds, h1, r2⟩ := seq_rep w.le r1 hx
  exact ⟨ds, h1, fun p hp => k2 _ _ p r2 hp q⟩
variable {Γ : Gm} {V : VM}
theorem sEf (R : VRel P.cl Γ V) {e : Ex} (hf : exFresh e = true) {ρ : EnU} {ρd : DEnv} {E : EU} {Ed : EK} {Q : QU} {Qd : QD} {N M : Mm} (h : vE V e ρ E Q) (c : Ct P Γ V ρ ρd E Ed N M)
    (k1 : ∀ u d N' M', Stp P N M N' M' → RU P N' u d → isLU u = false → Q u → Qd d M') (k2 : ∀ us ds p N' M', Stp P N M N' M' → RUs P N' us ds → M' p = none → Q (.lst us) → Qd (.ref p) (M'.put p (.lst ds))) : evE Γ e ρd M Ed Qd := by
  cases e <;> try (cases hf; done)
  · rename_i o a b
    simp only [vE] at h
    simp only [evE]
    exact sE R a h c fun x dx N1 M1 s1 rx h => sE R b h (c.on s1) fun y dy N2 M2 s2 ry h => op_repF s2.wd (rx.mono s2.le) ry h (fun u d r hl q => k1 u d N2 M2 (s1.trans s2) r hl q) (fun us ds p r hp q => k2 us ds p N2 M2 (s1.trans s2) r hp q)
  · rename_i es
    simp only [vE] at h
    simp only [evE]
    exact sEs R es h c fun us ds N1 M1 s1 r h => ⟨by rw [← r.length]; exact h.1, fun p hp => k2 us ds p N1 M1 s1 r hp h.2⟩
  · rename_i a lo hi
    simp only [vE] at h
    simp only [evE]
    exact sE R a h c fun x dx N1 M1 s1 rx h => sO R lo h (c.on s1) fun l N2 M2 s2 h => sO R hi h ((c.on s1).on s2) fun u N3 M3 s3 h => slc_repF s3.wd (rx.mono (Mm.le_trans s2.le s3.le)) h (fun u d r hl q => k1 u d N3 M3 ((s1.trans s2).trans s3) r hl q) (fun us ds p r hp q => k2 us ds p N3 M3 ((s1.trans s2).trans s3) r hp q)
  · rename_i b es
    cases b <;> try (cases hf; done)
    simp only [vE] at h
    simp only [evE]
    exact sEs R es h c fun us ds N1 M1 s1 r h => bil_repF s1.wd r h (fun us ds p r hp q => k2 us ds p N1 M1 s1 r hp q)
end
end VL
namespace VL
open PySem PySem.Spec L2 DL LW
mutual
/-- nothing in it that may change: no list -/
def U.flt : U → Bool
  | .tup us => flts us
  | .lst _ => false
  | .obj _ _ us => flts us
  | _ => true
def flts : List U → Bool
  | [] => true
  | u :: us => u.flt && flts us
end
mutual
/-- no list and no object -/
def U.flz : U → Bool
  | .tup us => flzs us
  | .lst _ => false
  | .obj _ _ _ => false
  | _ => true
def flzs : List U → Bool
  | [] => true
  | u :: us => u.flz && flzs us
end
inductive Sl where
  | no | fz (u : U) | ow (us : List U) | ob (g : Nat) (ks : List Str) (us : List U)
def Sl.own : Sl → Bool
  | .ow _ => true
  | .ob _ _ _ => true
  | _ => false
abbrev EnS := List Sl
mutual
def mE : Ex → Nat → Bool
  | .var i, n => n == i
  | .op _ a b, n => mE a n || mE b n
  | .neg a, n => mE a n
  | .cmp _ a b, n => mE a n || mE b n
  | .chn _ _ a b c, n => mE a n || mE b n || mE c n
  | .bop _ es, n => mEs es n
  | .not a, n => mE a n
  | .ite c a b, n => mT c n || mE a n || mE b n
  | .tup es, n => mEs es n
  | .lst es, n => mEs es n
  | .ix a b, n => mE a n || mE b n
  | .slc a lo hi, n => mE a n || mO lo n || mO hi n
  | .call _ es, n => mEs es n
  | .bi _ es, n => mEs es n
  | .mth _ a es, n => mE a n || mEs es n
  | .fld a _, n => mE a n
  | .lc _ _ it c e, n => mI it n || mC c n || mE e n
  | .rev a, n => mE a n
  | .lrv a, n => mE a n
  | .fmt a, n => mE a n
  | .fst es, n => mEs es n
  | .callk _ es _ zs, n => mEs es n || mEs zs n
  | .smt _ a e, n => mE a n || mE e n
  | .mk _ es, n => mEs es n
  | .mkk _ es _ zs, n => mEs es n || mEs zs n
  | .mc _ a _ es, n => mE a n || mEs es n
  | .prp _ a _, n => mE a n
  | .lno _ a, n => mE a n
  | .iso a _, n => mE a n
  | .oeq _ a b, n => mE a n || mE b n
  | .one _ a b, n => mE a n || mE b n
  | _, _ => false
def mT : Te → Nat → Bool
  | .val e, n => mE e n
  | .oeq _ a b, n => mE a n || mE b n
  | .cmp _ a b, n => mE a n || mE b n
  | .chn _ _ a b c, n => mE a n || mE b n || mE c n
  | .bop _ ts, n => mTs ts n
  | .not t, n => mT t n
def mTs : Tes → Nat → Bool
  | .nil, _ => false
  | .cons t ts, n => mT t n || mTs ts n
def mC : Teo → Nat → Bool
  | .none, _ => false
  | .some t, n => mT t n
def mEs : Exs → Nat → Bool
  | .nil, _ => false
  | .cons e es, n => mE e n || mEs es n
def mO : Exo → Nat → Bool
  | .none, _ => false
  | .some e, n => mE e n
def mI : Si → Nat → Bool
  | .seq e, n => mE e n
  | .rng1 a, n => mE a n
  | .rng2 a b, n => mE a n || mE b n
  | .rng3 a b c, n => mE a n || mE b n || mE c n
  | .enm a, n => mE a n
  | .rev a, n => mE a n
  | .zip a b, n => mE a n || mE b n
end
def Sl.see (o m : Bool) : Sl → Option U
  | .no => none
  | .fz u => some u
  | .ow us => if m then some (.lst us) else none
  | .ob g ks us => if o && m then some (.obj g ks us) else none
def Sl.thw : Sl → Sl
  | .ow us => .fz (.lst us)
  | s => s
def Sl.aft (m : Bool) (s : Sl) : Sl := bif m then s.thw else s
def Sl.thi (b : Bool) : Sl → Sl
  | .ow us => bif b then .fz (.lst us) else .ow us
  | s => s
theorem thi_eq (m b : Bool) (s : Sl) : (bif m then s.thi b else s) = s.aft (m && b) := by
  cases m <;> cases b <;> cases s <;> rfl
theorem aft_own {s : Sl} {b : Bool} (h : (s.aft b).own = true) : s.own = true := by
  cases s <;> cases b <;> first | rfl | exact h | cases h
theorem aft_ow {s : Sl} {b : Bool} {us : List U} (h : s.aft b = .ow us) : s = .ow us := by
  cases s <;> cases b <;> first | exact h | cases h
theorem aft_ob {s : Sl} {b : Bool} {g : Nat} {ks : List Str} {us : List U} (h : s.aft b = .ob g ks us) : s = .ob g ks us := by
  cases s <;> cases b <;> first | exact h | cases h
def Sl.frz : Sl → Sl
  | .ow us => .fz (.lst us)
  | .ob _ _ _ => .no
  | s => s
def seeF (o : Bool) (m : Nat → Bool) : Nat → EnS → EnU
  | _, [] => []
  | k, s :: ρ => s.see o (m k) :: seeF o m (k + 1) ρ
def aftF (m : Nat → Bool) (fl : Bool) : Nat → EnS → EnS
  | _, [] => []
  | k, s :: ρ => (bif m k then s.thi (!fl) else s) :: aftF m fl (k + 1) ρ
abbrev see (m : Nat → Bool) (ρ : EnS) : EnU := seeF false m 0 ρ
abbrev seeO (m : Nat → Bool) (ρ : EnS) : EnU := seeF true m 0 ρ
abbrev aft (m : Nat → Bool) (fl : Bool) (ρ : EnS) : EnS := aftF m fl 0 ρ
def frz (ρ : EnS) : EnS := ρ.map Sl.frz
structure KV where
  nx : EnS → Prop
  rt : QU
  bk : EnS → Prop := fun _ => False
  ct : EnS → Prop := fun _ => False
  ex : Xu → EnS → Prop := fun _ _ => False
abbrev TSv := EnS → KV → Prop
def setSl (ρ : EnS) : List (Nat × U) → EnS
  | [] => ρ
  | (i, u) :: bs => setSl (ρ.set i (.fz u)) bs
def slotF (e : Ex) (u : U) : Sl := if exFresh e = true then (match u with | .lst us => .ow us | u => .fz u) else .fz u
def flF (e : Ex) (u : U) : Bool := if exFresh e = true then (match u with | .lst us => flts us | u => u.flt) else u.flt
def asg (V : VM) (e : Ex) (ρ : EnS) (E : EU) (Q : Sl → EnS → Prop) : Prop := vE V e (see (mE e) ρ) E fun u => Q (slotF e u) (aft (mE e) (flF e u) ρ)
def asgLc (V : VM) (own : List Nat) (tg : Tg) (it : Si) (c : Teo) (e : Ex) (ρ : EnS) (E : EU) (Q : Sl → EnS → Prop) : Prop :=
  let m := mE (.lc own tg it c e)
  V.exn = none ∧ vI V it (see m ρ) E fun items =>
      vComp (fun u K => ∃ bs, bnd tg u = some bs ∧ vC V c (setB (wipeU (see m ρ) own) bs) EF fun b => if b = true then vE V e (setB (wipeU (see m ρ) own) bs) EF (fun x => K (some x)) else K none)
        items [] fun acc => Q (.ow acc) (aft m (flts acc) ρ)
def appV (i : Nat) (u : U) (ρ : EnS) (Q : EnS → Prop) : Prop := match ρ[i]? with
  | some (.ow us) => us.length < sizeLine ∧ Q (ρ.set i (.ow (us ++ [u])))
  | _ => False
def isOw : Option Sl → Bool
  | some (.ow _) => true
  | _ => false
def isOb : Option Sl → Bool
  | some (.ob _ _ _) => true
  | _ => false
def expV (V : VM) (e : Ex) (ρ : EnS) (E : EU) (Q : EnS → Prop) : Prop := match e with
  | .mth .append (.var i) (.cons a .nil) => isOw ρ[i]? = true ∧ vE V a (see (mE a) ρ) E fun u => appV i u (aft (mE a) (flF a u) ρ) Q
  | e => vE V e (see (mE e) ρ) E fun _ => Q ρ
def setSV (y : U) (i : Nat) (u : U) (ρ : EnS) (Q : EnS → Prop) : Prop := match y, ρ[i]? with
  | .int k, some (.ow us) => ∃ j, ixN us.length k = some j ∧ Q (ρ.set i (.ow (us.set j u)))
  | _, _ => False
def setFV (V : VM) (f : Str) (i : Nat) (u : U) (ρ : EnS) (Q : EnS → Prop) : Prop := match ρ[i]? with
  | some (.ob g ks us) => V.fld g f = true ∧ ks.contains f = false ∧ ks.length < 50 ∧ Q (ρ.set i (.ob g (ks ++ [f]) (us ++ [u])))
  | _ => False
def aftI (it : Si) (ρ : EnS) : EnS := match it with
  | .rng1 _ => ρ
  | .rng2 _ _ => ρ
  | .rng3 _ _ _ => ρ
  | it => aft (mI it) false ρ
def vWhl (c : EnS → (Xu → Prop) → (Bool → Prop) → Prop) (b : TSv) (K : KV) : Nat → EnS → Prop
  | 0, _ => False
  | n + 1, ρ => c ρ (fun x => K.ex x (frz ρ)) fun k => if k = true then b ρ { K with nx := vWhl c b K n, ct := vWhl c b K n, bk := K.nx } else K.nx ρ
def vFor (tg : Tg) (b : TSv) (K : KV) : List U → EnS → Prop
  | [], ρ => K.nx ρ
  | u :: us, ρ => ∃ bs, bnd tg u = some bs ∧ b (setSl ρ bs) { K with nx := vFor tg b K us, ct := vFor tg b K us, bk := K.nx }
mutual
def okS (i : Nat) : Sm → Bool
  | .ret _ => true
  | .retN => true
  | .pass => true
  | .expr _ => true
  | .brk => true
  | .cont => true
  | .set j _ => j != i
  | .raise _ _ => true
  | .raise0 _ => true
  | .ifs _ a b => okSs i a && okSs i b
  | _ => false
def okSs (i : Nat) : Sms → Bool
  | .nil => true
  | .cons s ss => okS i s && okSs i ss
end
def raiV (V : VM) (g : Nat) (us : List U) (Q : Xu → Prop) : Prop := match V.gv g with
  | .err fs tx => fs ≠ [] ∧ us.length = fs.length ∧ (∀ i ∈ tx, ∃ u, us[i]? = some u ∧ TxtU u) ∧ Q ⟨g, fs, us⟩
  | _ => False
def isErV : VG → Bool
  | .err _ _ => true
  | _ => false
def rai0V (V : VM) (g : Nat) (Q : Xu → Prop) : Prop := match V.gv g with
  | .err [] [] => Q ⟨g, [], []⟩
  | _ => False
mutual
def vS (V : VM) : Sm → TSv
  | .set i e => fun ρ K => asg V e ρ (fun x => K.ex x (frz ρ)) fun s ρ1 => K.nx (ρ1.set i s)
  | .setLc i own tg it c e => fun ρ K => asgLc V own tg it c e ρ (fun x => K.ex x (frz ρ)) fun s ρ1 => K.nx (ρ1.set i s)
  | .setT tg e => fun ρ K => V.exn = none ∧ vE V e (see (mE e) ρ) (fun x => K.ex x (frz ρ)) fun u => ∃ bs, bnd tg u = some bs ∧ K.nx (setSl (aft (mE e) u.flt ρ) bs)
  | .par i j a b => fun ρ K => V.exn = none ∧ vE V a (see (fun n => mE a n || mE b n) ρ) (fun x => K.ex x (frz ρ)) fun u => vE V b (see (fun n => mE a n || mE b n) ρ) (fun x => K.ex x (frz ρ)) fun v => K.nx (((aft (fun n => mE a n || mE b n) (u.flt && v.flt) ρ).set i (.fz u)).set j (.fz v))
  | .setS a b e => fun ρ K => match a with
    | .var i => isOw ρ[i]? = true ∧ vE V e (see (mE e) ρ) (fun x => K.ex x (frz ρ)) fun u => vE V b (see (mE b) (aft (mE e) (flF e u) ρ)) (fun x => K.ex x (frz ρ)) fun y => setSV y i u (aft (mE e) (flF e u) ρ) K.nx
    | _ => False
  | .setF a f e => fun ρ K => match a with
    | .var i => isOb ρ[i]? = true ∧ vE V e (seeO (mE e) ρ) (fun x => flzs x.us = true ∧ K.ex x (frz ρ)) fun u => u.flz = true ∧ setFV V f i u ρ K.nx
    | _ => False
  | .set2 tg i e => fun ρ K => V.exn = none ∧ vE V e (see (mE e) ρ) (fun x => K.ex x (frz ρ)) fun u => ∃ bs, bnd tg u = some bs ∧ K.nx ((setSl (aft (mE e) u.flt ρ) bs).set i (.fz u))
  | .setTl ts e => fun ρ K => V.exn = none ∧ vE V e (see (mE e) ρ) (fun x => K.ex x (frz ρ)) fun u => ∃ us bs, seqU u = some us ∧ bnds ts us = some bs ∧ K.nx (setSl (aft (mE e) false ρ) bs)
  | .ret e => fun ρ K => vE V e (see (mE e) ρ) (fun x => K.ex x (frz ρ)) K.rt
  | .retN => fun _ K => K.rt .non
  | .expr e => fun ρ K => expV V e ρ (fun x => K.ex x (frz ρ)) K.nx
  | .ifs c a b => fun ρ K => vT V c (see (mT c) ρ) (fun x => K.ex x (frz ρ)) fun k => if k = true then vSs V a ρ K else vSs V b ρ K
  | .whl c b => fun ρ K => ∃ n, vWhl (fun ρ E Q => vT V c (see (mT c) ρ) E Q) (vSs V b) K n ρ
  | .fo tg it b => fun ρ K => V.exn = none ∧ vI V it (see (mI it) ρ) (fun x => K.ex x (frz ρ)) fun items => vFor tg (vSs V b) K items (aftI it ρ)
  | .pass => fun ρ K => K.nx ρ
  | .brk => fun ρ K => K.bk ρ
  | .cont => fun ρ K => K.ct ρ
  | .never => fun _ _ => False
  | .raise g es => fun ρ K => isErV (V.gv g) = true ∧ vEs V es (see (mEs es) ρ) (fun x => K.ex x (frz ρ)) fun us => raiV V g us fun x => K.ex x (frz ρ)
  | .raise0 g => fun ρ K => rai0V V g fun x => K.ex x (frz ρ)
  | .trA b i g s => fun ρ K => vSs V b ρ { K with ex := fun x ρ1 => V.exn = none ∧ okSs i s = true ∧ i < ρ1.length ∧ (V.gv g).isCls = true ∧ ∃ k, V.sub x.g g = some k ∧
      (k = true → vSs { V with exn := some (i, x) } s (ρ1.set i .no) { nx := fun ρ2 => K.nx (ρ2.set i .no), rt := K.rt, bk := fun ρ2 => K.bk (ρ2.set i .no), ct := fun ρ2 => K.ct (ρ2.set i .no) }) ∧ (k = false → K.ex x ρ1) }
  | .trO b g s => fun ρ K => vSs V b ρ { K with ex := fun x ρ1 => V.exn = none ∧ (V.gv g).isCls = true ∧ ∃ k, V.sub x.g g = some k ∧
      (k = true → vSs V s ρ1 { nx := K.nx, rt := K.rt, bk := K.bk, ct := K.ct }) ∧ (k = false → K.ex x ρ1) }
def vSs (V : VM) : Sms → TSv
  | .nil => fun ρ K => K.nx ρ
  | .cons s ss => fun ρ K => vS V s ρ { K with nx := fun ρ1 => vSs V ss ρ1 K }
end
mutual
theorem flt_rep0 {P : Pl} {N N' : Mm} (hN : ∀ a C fs, N a = some (.ins C fs) → N' a = some (.ins C fs)) : ∀ {u : U} {d : D}, RU P N u d → u.flt = true → RU P N' u d
  | _, _, .non, _ => .non
  | _, _, .bl b, _ => .bl b
  | _, _, .int i, _ => .int i
  | _, _, .str x, _ => .str x
  | _, _, .ty n, _ => .ty n
  | _, _, .tup r, h => .tup (flts_rep0 hN r (by simpa [U.flt] using h))
  | _, _, .lst a r, h => by simp [U.flt] at h
  | _, _, .obj a b r, h => .obj (hN _ _ _ a) b (flts_rep0 hN r (by simpa [U.flt] using h))
  | _, _, .hand a, h => .hand a
theorem flts_rep0 {P : Pl} {N N' : Mm} (hN : ∀ a C fs, N a = some (.ins C fs) → N' a = some (.ins C fs)) : ∀ {us : List U} {ds : List D}, RUs P N us ds → flts us = true → RUs P N' us ds
  | _, _, .nil, _ => .nil
  | _, _, .cons r rs, h => by
    simp only [flts, Bool.and_eq_true] at h
    exact .cons (flt_rep0 hN r h.1) (flts_rep0 hN rs h.2)
end
mutual
theorem flz_rep {P : Pl} {N N' : Mm} : ∀ {u : U} {d : D}, RU P N u d → u.flz = true → RU P N' u d
  | _, _, .non, _ => .non
  | _, _, .bl b, _ => .bl b
  | _, _, .int i, _ => .int i
  | _, _, .str x, _ => .str x
  | _, _, .ty n, _ => .ty n
  | _, _, .tup r, h => .tup (flzs_rep r (by simpa [U.flz] using h))
  | _, _, .lst a r, h => by simp [U.flz] at h
  | _, _, .obj a b r, h => by simp [U.flz] at h
  | _, _, .hand a, h => .hand a
theorem flzs_rep {P : Pl} {N N' : Mm} : ∀ {us : List U} {ds : List D}, RUs P N us ds → flzs us = true → RUs P N' us ds
  | _, _, .nil, _ => .nil
  | _, _, .cons r rs, h => by
    simp only [flzs, Bool.and_eq_true] at h
    exact .cons (flz_rep r h.1) (flzs_rep rs h.2)
end
def SlR (P : Pl) (N M : Mm) (a : Addr) : Sl → Option (Option D) → Prop
  | .no, _ => True
  | .fz u, o => ∃ d, o = some (some d) ∧ RU P N u d
  | .ow us, o => o = some (some (.ref a)) ∧ N a = none ∧ ∃ ds, M a = some (.lst ds) ∧ RUs P N us ds
  | .ob g ks us, o => o = some (some (.ref a)) ∧ N a = none ∧ ∃ ds, M a = some (.ins (P.cl g) (ks.zip ds)) ∧ ks.length = us.length ∧ RUs P N us ds
structure En (P : Pl) (sf : Option Addr) (N0 B N M : Mm) : Prop where
  wd : Wd P N M
  le : N0.le N
  ext : ∀ a o, sf ≠ some a → (∀ q, P.hd = some q → a ≠ q.h) → B a = some o → M a = some o
  fr : ∀ a, N0 a = none → B a ≠ none → N a = none
  sff : ∀ p, sf = some p → M p ≠ none ∧ (∀ q, P.hd = some q → p ≠ q.h ∧ p ≠ q.c)
structure SR (P : Pl) (Γ : Gm) (V : VM) (sf : Option Addr) (N0 B : Mm) (oa : Nat → Addr) (ρ : EnS) (ρd : DEnv) (N M : Mm) : Prop extends En P sf N0 B N M where
  len : ρ.length = ρd.length
  sl : ∀ (i : Nat) (s : Sl), ρ[i]? = some s → SlR P N M (oa i) s ρd[i]?
  dj : ∀ (i j : Nat) (s t : Sl), ρ[i]? = some s → ρ[j]? = some t → s.own = true → t.own = true → i ≠ j → oa i ≠ oa j
  nw : ∀ (i : Nat) (s : Sl), ρ[i]? = some s → s.own = true → ∀ q, P.hd = some q → oa i ≠ q.h ∧ oa i ≠ q.c
  nb : ∀ (i : Nat) (us : List U), ρ[i]? = some (.ow us) → B (oa i) = none
  ob : ∀ (i g : Nat) (ks : List Str) (us : List U), ρ[i]? = some (.ob g ks us) → sf = some (oa i)
  ex : ∀ (i : Nat) (x : Xu), V.exn = some (i, x) → ∃ p C dx, Γ.exn = some (p, C, dx) ∧ ρd[i]? = some (some (.ref p)) ∧ RX P N x ⟨C, dx⟩
structure KR (P : Pl) (Γ : Gm) (V : VM) (sf : Option Addr) (N0 B L : Mm) (K : KV) (Kd : KE) : Prop where
  nx : ∀ oa ρ ρd N M, SR P Γ V sf N0 B oa ρ ρd N M → L.le N → K.nx ρ → Kd.nx ρd M
  rt : ∀ u d N M, En P sf N0 B N M → RU P N u d → K.rt u → Kd.rt d M
  bk : ∀ oa ρ ρd N M, SR P Γ V sf N0 B oa ρ ρd N M → L.le N → K.bk ρ → Kd.bk ρd M
  ct : ∀ oa ρ ρd N M, SR P Γ V sf N0 B oa ρ ρd N M → L.le N → K.ct ρ → Kd.ct ρd M
  ex : ∀ oa x xd ρ ρd N M, SR P Γ V sf N0 B oa ρ ρd N M → L.le N → RX P N x xd → K.ex x ρ → Kd.ex xd ρd M
section
variable {P : Pl} {Γ : Gm} {V : VM} {sf : Option Addr} {N0 B N M : Mm} {oa : Nat → Addr} {ρ : EnS} {ρd : DEnv} {m : Nat → Bool}
theorem see_get {o : Bool} : ∀ {ρ : EnS} (k i : Nat), (seeF o m k ρ)[i]? = ρ[i]?.map fun s => s.see o (m (k + i))
  | [], k, i => by simp [seeF]
  | s :: ρ, k, 0 => by simp [seeF]
  | s :: ρ, k, i + 1 => by
    simp only [seeF, List.getElem?_cons_succ]
    rw [see_get (k + 1) i]
    have : k + 1 + i = k + (i + 1) := by omega
    rw [this]
theorem aft_get {fl : Bool} : ∀ {ρ : EnS} (k i : Nat), (aftF m fl k ρ)[i]? = ρ[i]?.map fun s => s.aft (m (k + i) && !fl)
  | [], k, i => by simp [aftF]
  | s :: ρ, k, 0 => by
    simp only [aftF, thi_eq]
    simp
  | s :: ρ, k, i + 1 => by
    simp only [aftF, List.getElem?_cons_succ]
    rw [aft_get (k + 1) i]
    have : k + 1 + i = k + (i + 1) := by omega
    rw [this]
theorem see_len {o : Bool} : ∀ {ρ : EnS} (k : Nat), (seeF o m k ρ).length = ρ.length
  | [], k => rfl
  | s :: ρ, k => by simp [seeF, see_len (k + 1)]
theorem aft_len {fl : Bool} : ∀ {ρ : EnS} (k : Nat), (aftF m fl k ρ).length = ρ.length
  | [], k => rfl
  | s :: ρ, k => by simp [aftF, aft_len (k + 1)]
theorem frz_aft {fl : Bool} : ∀ {ρ : EnS} (k : Nat), frz (aftF m fl k ρ) = frz ρ
  | [], k => rfl
  | s :: ρ, k => by
    have e := frz_aft (fl := fl) (ρ := ρ) (k + 1)
    simp only [frz] at e
    simp only [aftF, thi_eq, frz, List.map_cons, e]
    congr 1
    cases s <;> simp only [Sl.aft] <;> cases (m k && !fl) <;> rfl
theorem aft_true : ∀ {ρ : EnS} (k : Nat), aftF m true k ρ = ρ
  | [], k => rfl
  | s :: ρ, k => by
    simp only [aftF, thi_eq, aft_true (k + 1)]
    congr 1
    rw [Bool.not_true, Bool.and_false]
    rfl
def Mo (o : Bool) (oa : Nat → Addr) (m : Nat → Bool) (ρ : EnS) (a : Addr) : Prop := ∃ (i : Nat) (s : Sl), ρ[i]? = some s ∧ s.own = true ∧ (o = true ∨ ∃ us, s = .ow us) ∧ m i = true ∧ oa i = a
open Classical in
noncomputable def Np (o : Bool) (oa : Nat → Addr) (m : Nat → Bool) (ρ : EnS) (N M : Mm) : Mm := fun a => if Mo o oa m ρ a then M a else N a
open Classical in
noncomputable def Nq (o : Bool) (oa : Nat → Addr) (m : Nat → Bool) (ρ : EnS) (fl : Bool) (N : Mm) : Mm := fun a => if fl = true ∧ Mo o oa m ρ a then none else N a
variable {o : Bool}
theorem Np_pos {a : Addr} (h : Mo o oa m ρ a) : Np o oa m ρ N M a = M a := by unfold Np; rw [if_pos h]
theorem Np_neg {a : Addr} (h : ¬ Mo o oa m ρ a) : Np o oa m ρ N M a = N a := by unfold Np; rw [if_neg h]
theorem SR.own_at (S : SR P Γ V sf N0 B oa ρ ρd N M) {i : Nat} {s : Sl} (h : ρ[i]? = some s) (ho : s.own = true) : N (oa i) = none ∧ ((∃ us ds, s = .ow us ∧ M (oa i) = some (.lst ds) ∧ RUs P N us ds) ∨ ∃ g ks us ds, s = .ob g ks us ∧ M (oa i) = some (.ins (P.cl g) (ks.zip ds)) ∧ ks.length = us.length ∧ RUs P N us ds) := by
  have q := S.sl i s h
  cases s with
  | no => cases ho
  | fz u => cases ho
  | ow us => obtain ⟨_, h2, ds, h3, h4⟩ := q; exact ⟨h2, .inl ⟨us, ds, rfl, h3, h4⟩⟩
  | ob g ks us => obtain ⟨_, h2, ds, h3, h4, h5⟩ := q; exact ⟨h2, .inr ⟨g, ks, us, ds, rfl, h3, h4, h5⟩⟩
theorem SR.mo_none (S : SR P Γ V sf N0 B oa ρ ρd N M) {a : Addr} (h : Mo o oa m ρ a) : N a = none ∧ (B a = none ∨ sf = some a) ∧ (∀ q, P.hd = some q → a ≠ q.h ∧ a ≠ q.c) ∧ M a ≠ none := by
  obtain ⟨i, s, h1, h2, h3, h4, rfl⟩ := h
  obtain ⟨h5, h6⟩ := S.own_at h1 h2
  refine ⟨h5, ?_, S.nw i s h1 h2, ?_⟩
  · rcases h6 with ⟨us, ds, rfl, _⟩ | ⟨g, ks, us, ds, rfl, _⟩
    · exact .inl (S.nb i us h1)
    · exact .inr (S.ob i _ _ _ h1)
  · rcases h6 with ⟨us, ds, rfl, h, _⟩ | ⟨g, ks, us, ds, rfl, h, _⟩
    · rw [h]; simp
    · rw [h]; simp
theorem SR.le_np (S : SR P Γ V sf N0 B oa ρ ρd N M) : N.le (Np o oa m ρ N M) := fun a u e => by
  by_cases h : Mo o oa m ρ a
  · rw [(S.mo_none h).1] at e; cases e
  · rw [Np_neg h]; exact e
theorem SR.see (S : SR P Γ V sf N0 B oa ρ ρd N M) (o : Bool) (m : Nat → Bool) : REn P Γ V (Np o oa m ρ N M) (seeF o m 0 ρ) ρd ∧ Wd P (Np o oa m ρ N M) M := by
  refine ⟨⟨by rw [see_len]; exact S.len, fun i u h => ?_, fun i x h => ?_⟩, fun a u e => ?_, S.wd.w, fun q e => ?_⟩
  · rw [see_get, Nat.zero_add] at h
    cases e : ρ[i]? with
    | none => rw [e] at h; cases h
    | some s =>
      rw [e] at h
      have r := S.sl i s e
      cases s with
      | no => cases h
      | fz v =>
        cases h
        obtain ⟨d, h1, h2⟩ := r
        exact ⟨d, h1, h2.mono S.le_np⟩
      | ow us =>
        simp only [Option.map_some, Sl.see] at h
        by_cases hm : m i = true
        · rw [if_pos hm] at h
          cases h
          obtain ⟨h1, h2, ds, h3, h4⟩ := r
          exact ⟨_, h1, .lst (by rw [Np_pos ⟨i, _, e, rfl, .inr ⟨us, rfl⟩, hm, rfl⟩]; exact h3) (h4.mono S.le_np)⟩
        · rw [if_neg hm] at h; cases h
      | ob g ks us =>
        simp only [Option.map_some, Sl.see] at h
        by_cases hm : (o && m i) = true
        · rw [if_pos hm] at h
          cases h
          simp only [Bool.and_eq_true] at hm
          obtain ⟨h1, h2, ds, h3, h4, h5⟩ := r
          exact ⟨_, h1, .obj (by rw [Np_pos ⟨i, _, e, rfl, .inl hm.1, hm.2, rfl⟩]; exact h3) h4 (h5.mono S.le_np)⟩
        · rw [if_neg hm] at h; cases h
  · obtain ⟨p, C, dx, h1, h2, h3⟩ := S.ex i x h
    exact ⟨p, C, dx, h1, h2, h3.mono S.le_np⟩
  · by_cases h : Mo o oa m ρ a
    · rw [Np_pos h] at e; exact e
    · rw [Np_neg h] at e; exact S.wd.le _ _ e
  · have ne : ∀ a, (a = q.h ∨ a = q.c) → ¬ Mo o oa m ρ a := fun a h1 h2 => by
      have := (S.mo_none h2).2.2.1 q e
      rcases h1 with h1 | h1
      · exact this.1 h1
      · exact this.2 h1
    rw [Np_neg (ne _ (.inl rfl)), Np_neg (ne _ (.inr rfl))]
    exact S.wd.nh q e
theorem SR.back (S : SR P Γ V sf N0 B oa ρ ρd N M) (m : Nat → Bool) {N1 M1 : Mm} (s : Stp P (Np o oa m ρ N M) M N1 M1) (fl : Bool) (hof : o = true → fl = true) :
    SR P Γ V sf N0 B oa (aft m fl ρ) ρd (Nq o oa m ρ fl N1) M1 ∧ N.le (Nq o oa m ρ fl N1) := by
  have qp : ∀ a, ¬ (fl = true ∧ Mo o oa m ρ a) → Nq o oa m ρ fl N1 a = N1 a := fun a h => by unfold Nq; rw [if_neg h]
  have qn : ∀ a, (fl = true ∧ Mo o oa m ρ a) → Nq o oa m ρ fl N1 a = none := fun a h => by unfold Nq; rw [if_pos h]
  have qle : (Nq o oa m ρ fl N1).le N1 := fun a u e => by
    by_cases h : fl = true ∧ Mo o oa m ρ a
    · rw [qn a h] at e; cases e
    · rw [qp a h] at e; exact e
  have le : N.le (Nq o oa m ρ fl N1) := fun a u e => by
    have : ¬ Mo o oa m ρ a := fun h => by rw [(S.mo_none h).1] at e; cases e
    rw [qp a (fun h => this h.2)]
    exact s.le _ _ (S.le_np _ _ e)
  have none1 : ∀ a, N a = none → M a ≠ none → ¬ Mo o oa m ρ a → N1 a = none := fun a h1 h2 h3 => s.fr a (by rw [Np_neg h3]; exact h1) h2
  refine ⟨⟨⟨⟨Mm.le_trans qle s.wd.le, s.wd.w, fun q e => ?_⟩, Mm.le_trans S.le le, fun a u h1 h2 h3 => s.ext _ _ h2 (S.ext a u h1 h2 h3), fun a h1 h2 => ?_, fun p hp => ?_⟩, by rw [aft_len]; exact S.len, fun i t h => ?_, fun i j a b h1 h2 h3 h4 h5 => ?_, fun i t h1 h2 => ?_, fun i us h => ?_, fun i g ks us h => ?_, fun i x h => ?_⟩, le⟩
  · have z := s.wd.nh q e
    have f : ∀ a, N1 a = none → Nq o oa m ρ fl N1 a = none := fun a ha => by
      by_cases h : fl = true ∧ Mo o oa m ρ a
      · exact qn a h
      · rw [qp a h]; exact ha
    exact ⟨f _ z.1, f _ z.2⟩
  · have n0 := S.fr a h1 h2
    by_cases nm : Mo o oa m ρ a
    · obtain ⟨i, t, g1, g2, g3, g4, rfl⟩ := nm
      obtain ⟨_, g5⟩ := S.own_at g1 g2
      rcases g5 with ⟨us, ds, rfl, _⟩ | ⟨g, ks, us, ds, rfl, _⟩
      · exact absurd (S.nb i us g1) h2
      · rcases g3 with g3 | ⟨us, g3⟩
        · exact qn _ ⟨hof g3, i, _, g1, rfl, .inl g3, g4, rfl⟩
        · cases g3
    rw [qp a (fun h => nm h.2)]
    by_cases hh : ∀ q, P.hd = some q → a ≠ q.h
    · refine none1 a n0 (fun z => ?_) nm
      by_cases hs : sf = some a
      · exact (S.sff a hs).1 z
      · rcases y : B a with _ | u
        · exact h2 y
        · rw [S.ext a u hs hh y] at z; cases z
    · have : ∃ r, P.hd = some r ∧ a = r.h := Classical.byContradiction fun z => hh fun r e1 e2 => z ⟨r, e1, e2⟩
      obtain ⟨r, e1, rfl⟩ := this
      exact (s.wd.nh r e1).1
  · obtain ⟨h1, h2⟩ := S.sff p hp
    refine ⟨fun z => ?_, h2⟩
    rcases y : M p with _ | u
    · exact h1 y
    · rw [s.ext p u (fun q e => (h2 q e).1) y] at z; cases z
  · rw [aft_get, Nat.zero_add] at h
    cases e : ρ[i]? with
    | none => rw [e] at h; cases h
    | some t0 =>
      rw [e] at h
      cases h
      have r := S.sl i t0 e
      have notMo : t0.own = true → (m i = true → ∀ us, t0 = .ow us → False) → (m i = true → o = true → False) → ¬ Mo o oa m ρ (oa i) := fun ho f1 f2 ⟨j, vs, e1, e2, e3, e4, e5⟩ => by
        by_cases hij : j = i
        · subst hij
          rw [e] at e1; cases e1
          rcases e3 with e3 | ⟨us, e3⟩
          · exact f2 e4 e3
          · exact f1 e4 us e3
        · exact S.dj j i _ _ e1 e e2 ho hij e5
      cases t0 with
      | no => cases (m i && !fl) <;> exact trivial
      | fz v =>
        obtain ⟨d, h1, h2⟩ := r
        cases (m i && !fl) <;> exact ⟨d, h1, h2.mono le⟩
      | ow us =>
        obtain ⟨h1, h2, ds, h3, h4⟩ := r
        have hq := S.nw i _ e rfl
        by_cases hm : m i = true
        · have hM : Mo o oa m ρ (oa i) := ⟨i, _, e, rfl, .inr ⟨us, rfl⟩, hm, rfl⟩
          cases fl with
          | true =>
            rw [hm]
            exact ⟨h1, qn _ ⟨rfl, hM⟩, ds, s.ext _ _ (fun q e => (hq q e).1) h3, h4.mono le⟩
          | false =>
            rw [hm]
            refine ⟨_, h1, .lst ?_ (h4.mono le)⟩
            rw [qp _ (fun h => by cases h.1)]
            exact s.le _ _ (by rw [Np_pos hM]; exact h3)
        · have hM := notMo rfl (fun z => absurd z hm) (fun z => absurd z hm)
          rw [show m i = false by cases z : m i <;> first | rfl | exact absurd z hm]
          exact ⟨h1, by rw [qp _ (fun h => hM h.2)]; exact none1 _ h2 (by rw [h3]; simp) hM, ds, s.ext _ _ (fun q e => (hq q e).1) h3, h4.mono le⟩
      | ob g ks us =>
        obtain ⟨h1, h2, ds, h3, h4, h5⟩ := r
        have hq := S.nw i _ e rfl
        suffices hh : Nq o oa m ρ fl N1 (oa i) = none by
          cases (m i && !fl) <;> exact ⟨h1, hh, ds, s.ext _ _ (fun q e => (hq q e).1) h3, h4, h5.mono le⟩
        by_cases hM : Mo o oa m ρ (oa i)
        · have ho : o = true := by
            obtain ⟨j, vs, e1, e2, e3, e4, e5⟩ := hM
            rcases e3 with e3 | ⟨us, rfl⟩
            · exact e3
            · by_cases hij : j = i
              · subst hij; rw [e] at e1; cases e1
              · exact absurd e5 (S.dj j i _ _ e1 e rfl rfl hij)
          exact qn _ ⟨hof ho, hM⟩
        · rw [qp _ (fun h => hM h.2)]
          exact none1 _ h2 (by rw [h3]; simp) hM
  · have back : ∀ (i : Nat) (t : Sl), (aft m fl ρ)[i]? = some t → t.own = true → ∃ t0 : Sl, ρ[i]? = some t0 ∧ t0.own = true := fun i t h ho => by
      rw [aft_get, Nat.zero_add] at h
      cases e : ρ[i]? with
      | none => rw [e] at h; cases h
      | some t0 =>
        rw [e] at h
        cases h
        exact ⟨t0, rfl, aft_own ho⟩
    obtain ⟨a0, b1, b2⟩ := back i a h1 h3
    obtain ⟨c0, b3, b4⟩ := back j b h2 h4
    exact S.dj i j _ _ b1 b3 b2 b4 h5
  · rw [aft_get, Nat.zero_add] at h1
    cases e : ρ[i]? with
    | none => rw [e] at h1; cases h1
    | some t0 =>
      rw [e] at h1
      cases h1
      exact S.nw i t0 e (aft_own h2)
  · rw [aft_get, Nat.zero_add] at h
    cases e : ρ[i]? with
    | none => rw [e] at h; cases h
    | some t0 =>
      rw [e] at h
      exact S.nb i _ (by rw [e]; exact congrArg some (aft_ow (Option.some.inj h)))
  · rw [aft_get, Nat.zero_add] at h
    cases e : ρ[i]? with
    | none => rw [e] at h; cases h
    | some t0 =>
      rw [e] at h
      exact S.ob i g ks us (by rw [e]; exact congrArg some (aft_ob (Option.some.inj h)))
  · obtain ⟨p, C, dx, h1, h2, h3⟩ := S.ex i x h
    exact ⟨p, C, dx, h1, h2, h3.mono le⟩
theorem nq_false {N1 : Mm} : Nq o oa m ρ false N1 = N1 := by funext a; unfold Nq; rw [if_neg (fun h => by cases h.1)]
theorem SR.nq_ins (S : SR P Γ V sf N0 B oa ρ ρd N M) {N1 M1 : Mm} (s : Stp P (Np false oa m ρ N M) M N1 M1) {fl : Bool} : ∀ a C fs, N1 a = some (.ins C fs) → Nq false oa m ρ fl N1 a = some (.ins C fs) := fun a C fs e => by
  unfold Nq
  by_cases h : fl = true ∧ Mo false oa m ρ a
  · exfalso
    obtain ⟨_, i, t, g1, g2, g3, g4, rfl⟩ := h
    obtain ⟨_, g5⟩ := S.own_at g1 g2
    have hM : Mo false oa m ρ (oa i) := ⟨i, t, g1, g2, g3, g4, rfl⟩
    rcases g5 with ⟨us, ds, rfl, h1, _⟩ | ⟨g, ks, us, ds, rfl, _⟩
    · rw [s.le _ _ (by rw [Np_pos hM]; exact h1)] at e; cases e
    · rcases g3 with g3 | ⟨us, g3⟩
      · cases g3
      · cases g3
  · rw [if_neg h]; exact e
theorem SR.nq_exd (S : SR P Γ V sf N0 B oa ρ ρd N M) {N1 M1 : Mm} (s : Stp P (Np o oa m ρ N M) M N1 M1) {fl : Bool} : ∀ a fs, N1 a = some (.exd fs) → Nq o oa m ρ fl N1 a = some (.exd fs) := fun a fs e => by
  unfold Nq
  by_cases h : fl = true ∧ Mo o oa m ρ a
  · exfalso
    obtain ⟨_, i, t, g1, g2, g3, g4, rfl⟩ := h
    obtain ⟨_, g5⟩ := S.own_at g1 g2
    have hM : Mo o oa m ρ (oa i) := ⟨i, t, g1, g2, g3, g4, rfl⟩
    rcases g5 with ⟨us, ds, rfl, h1, _⟩ | ⟨g, ks, us, ds, rfl, h1, _⟩
    · rw [s.le _ _ (by rw [Np_pos hM]; exact h1)] at e; cases e
    · rw [s.le _ _ (by rw [Np_pos hM]; exact h1)] at e; cases e
  · rw [if_neg h]; exact e
theorem SR.nq_rep (S : SR P Γ V sf N0 B oa ρ ρd N M) {N1 M1 : Mm} (s : Stp P (Np false oa m ρ N M) M N1 M1) {u : U} {d : D} (h : RU P N1 u d) : RU P (Nq false oa m ρ u.flt N1) u d := by
  cases e : u.flt with
  | true => exact flt_rep0 (S.nq_ins s) h e
  | false => rw [nq_false]; exact h
theorem SR.nqs_rep (S : SR P Γ V sf N0 B oa ρ ρd N M) {N1 M1 : Mm} (s : Stp P (Np false oa m ρ N M) M N1 M1) {u : List U} {d : List D} (h : RUs P N1 u d) : RUs P (Nq false oa m ρ (flts u) N1) u d := by
  cases e : flts u with
  | true => exact flts_rep0 (S.nq_ins s) h e
  | false => rw [nq_false]; exact h
end
end VL
namespace VL
open PySem PySem.Spec L2 DL LW
section
variable {P : Pl} {Γ : Gm} {V : VM} {sf : Option Addr} {N0 B N M L : Mm} {oa : Nat → Addr} {ρ : EnS} {ρd : DEnv} {m : Nat → Bool}
theorem frz_get {ρ : EnS} {i : Nat} : (frz ρ)[i]? = ρ[i]?.map Sl.frz := by unfold frz; rw [List.getElem?_map]
theorem SR.weak (S : SR P Γ V sf N0 B oa ρ ρd N M) {ρ' : EnS} (hl : ρ'.length = ρ.length) (h : ∀ (i : Nat) (s : Sl), ρ'[i]? = some s → s = .no ∨ ρ[i]? = some s) : SR P Γ V sf N0 B oa ρ' ρd N M := by
  refine ⟨S.toEn, hl.trans S.len, fun i s e => ?_, fun i j s t e1 e2 o1 o2 => ?_, fun i s e o => ?_, fun i us e => ?_, fun i g ks us e => ?_, S.ex⟩
  · rcases h i s e with rfl | h
    · exact trivial
    · exact S.sl i s h
  · rcases h i s e1 with rfl | h1
    · cases o1
    rcases h j t e2 with rfl | h2
    · cases o2
    exact S.dj i j s t h1 h2 o1 o2
  · rcases h i s e with rfl | h
    · cases o
    · exact S.nw i s h o
  · rcases h i _ e with h | h
    · cases h
    · exact S.nb i _ h
  · rcases h i _ e with h | h
    · cases h
    · exact S.ob i _ _ _ h
theorem SR.frz (S : SR P Γ V sf N0 B oa ρ ρd N M) : ∃ N', N.le N' ∧ SR P Γ V sf N0 B oa (frz ρ) ρd N' M := by
  have w := (S.see false fun _ => true).2
  obtain ⟨S1, l⟩ := S.back (fun _ => true) (Stp.refl w) false (fun z => by cases z)
  refine ⟨_, l, S1.weak (by unfold VL.frz; rw [List.length_map, aft_len]) fun i s e => ?_⟩
  rw [frz_get] at e
  cases h : ρ[i]? with
  | none => rw [h] at e; cases e
  | some t =>
    rw [h] at e
    cases e
    cases t with
    | no => exact .inl rfl
    | ob g ks us => exact .inl rfl
    | fz u => exact .inr (by rw [aft_get, h]; rfl)
    | ow us => exact .inr (by rw [aft_get, h]; rfl)
theorem SR.kx (S : SR P Γ V sf N0 B oa ρ ρd N M) {E : EU} {Ed : EK} (k : ∀ x xd N1 M1, SR P Γ V sf N0 B oa (VL.frz ρ) ρd N1 M1 → N.le N1 → RX P N1 x xd → E x → Ed xd M1) : KX P (Np false oa m ρ N M) M E Ed := fun x xd N1 M1 s rx h => by
  obtain ⟨S1, l⟩ := S.back m s false (fun z => by cases z)
  rw [nq_false] at S1 l
  obtain ⟨N2, l2, S2⟩ := S1.frz
  rw [frz_aft] at S2
  exact k x xd N2 M1 S2 (Mm.le_trans l l2) (rx.mono l2) h
theorem SR.ctO (S : SR P Γ V sf N0 B oa ρ ρd N M) (m : Nat → Bool) {E : EU} {Ed : EK} (k : ∀ x xd N1 M1, SR P Γ V sf N0 B oa (VL.frz ρ) ρd N1 M1 → N.le N1 → RX P N1 x xd → E x → Ed xd M1) : Ct P Γ V (VL.seeO m ρ) ρd (fun x => flzs x.us = true ∧ E x) Ed (Np true oa m ρ N M) M :=
  ⟨(S.see true m).1, (S.see true m).2, fun x xd N1 M1 s rx h => by
    obtain ⟨S1, l⟩ := S.back m s true (fun _ => rfl)
    rw [show aft m true ρ = ρ from aft_true 0] at S1
    obtain ⟨N2, l2, S2⟩ := S1.frz
    refine k x xd N2 M1 S2 (Mm.le_trans l l2) ⟨rx.c, ?_⟩ h.2
    rcases rx.f with f | ⟨dd, ds, f1, f2, f3, f4⟩
    · exact .inl f
    · exact .inr ⟨dd, ds, f1, l2 _ _ (S.nq_exd s _ _ f2), f3, flzs_rep f4 h.1⟩⟩
theorem SR.ct (S : SR P Γ V sf N0 B oa ρ ρd N M) (m : Nat → Bool) {E : EU} {Ed : EK} (k : ∀ x xd N1 M1, SR P Γ V sf N0 B oa (VL.frz ρ) ρd N1 M1 → N.le N1 → RX P N1 x xd → E x → Ed xd M1) : Ct P Γ V (VL.see m ρ) ρd E Ed (Np false oa m ρ N M) M := ⟨(S.see false m).1, (S.see false m).2, S.kx k⟩
theorem KR.ctx {K : KV} {Kd : KE} (k : KR P Γ V sf N0 B L K Kd) (S : SR P Γ V sf N0 B oa ρ ρd N M) (l : L.le N) (m : Nat → Bool) : Ct P Γ V (VL.see m ρ) ρd (fun x => K.ex x (VL.frz ρ)) (fun x => Kd.ex x ρd) (Np false oa m ρ N M) M :=
  S.ct m fun x xd N1 M1 S1 l1 rx h => k.ex oa x xd _ _ N1 M1 S1 (Mm.le_trans l l1) rx h
theorem sl_get {α : Type} {l : List α} {i j : Nat} {x y : α} (h : (l.set i x)[j]? = some y) : (i = j ∧ i < l.length ∧ x = y) ∨ (i ≠ j ∧ l[j]? = some y) := by
  by_cases e : i = j
  · subst e
    by_cases hl : i < l.length
    · rw [List.getElem?_set_self hl] at h; cases h; exact .inl ⟨rfl, hl, rfl⟩
    · rw [List.getElem?_eq_none (by simpa using hl)] at h; cases h
  · rw [List.getElem?_set_ne e] at h; exact .inr ⟨e, h⟩
theorem SR.setD (S : SR P Γ V sf N0 B oa ρ ρd N M) {i : Nat} {u : U} {d : D} (r : RU P N u d) (hx : ∀ j x, V.exn = some (j, x) → i ≠ j) : SR P Γ V sf N0 B oa (ρ.set i (.fz u)) (ρd.set i (some d)) N M := by
  refine ⟨S.toEn, by simp [S.len], fun j s e => ?_, fun j k s t e1 e2 o1 o2 => ?_, fun j s e o => ?_, fun j us e => ?_, fun j g ks us e => ?_, fun j x e => ?_⟩
  · rcases sl_get e with ⟨rfl, h, rfl⟩ | ⟨h, e⟩
    · exact ⟨d, by rw [List.getElem?_set_self (by rw [← S.len]; exact h)], r⟩
    · rw [List.getElem?_set_ne h]; exact S.sl j s e
  · rcases sl_get e1 with ⟨rfl, h, rfl⟩ | ⟨h, e1⟩
    · cases o1
    rcases sl_get e2 with ⟨rfl, h, rfl⟩ | ⟨h, e2⟩
    · cases o2
    exact S.dj j k s t e1 e2 o1 o2
  · rcases sl_get e with ⟨rfl, h, rfl⟩ | ⟨h, e⟩
    · cases o
    · exact S.nw j s e o
  · rcases sl_get e with ⟨rfl, h, e⟩ | ⟨h, e⟩
    · cases e
    · exact S.nb j us e
  · rcases sl_get e with ⟨rfl, h, e⟩ | ⟨h, e⟩
    · cases e
    · exact S.ob j _ _ _ e
  · obtain ⟨p, C, dx, h1, h2, h3⟩ := S.ex j x e
    exact ⟨p, C, dx, h1, by rw [List.getElem?_set_ne (hx j x e)]; exact h2, h3⟩
def upO (oa : Nat → Addr) (i : Nat) (p : Addr) : Nat → Addr := fun j => if j = i then p else oa j
theorem upO_s {i : Nat} {p : Addr} : upO oa i p i = p := by unfold upO; rw [if_pos rfl]
theorem upO_n {i j : Nat} {p : Addr} (h : i ≠ j) : upO oa i p j = oa j := by unfold upO; rw [if_neg (Ne.symm h)]
theorem SR.own_ne (S : SR P Γ V sf N0 B oa ρ ρd N M) {i : Nat} {s : Sl} {p : Addr} (h : ρ[i]? = some s) (o : s.own = true) (hp : M p = none) : oa i ≠ p := fun e => by
  have r := S.sl i s h
  cases s with
  | no => cases o
  | fz u => cases o
  | ow us => obtain ⟨_, _, ds, h1, _⟩ := r; rw [e, hp] at h1; cases h1
  | ob g ks us => obtain ⟨_, _, ds, h1, _⟩ := r; rw [e, hp] at h1; cases h1
theorem En.newO (S : En P sf N0 B N M) {p : Addr} (hp : M p = none) (o : MO) : En P sf N0 B N (M.put p o) := by
  have s := S.wd.own hp o
  refine ⟨s.wd, S.le, fun a u h1 h2 h3 => s.ext a u h2 (S.ext a u h1 h2 h3), S.fr, fun q e => ⟨fun z => ?_, (S.sff q e).2⟩⟩
  by_cases h : q = p
  · subst h; rw [Mm.put_same] at z; cases z
  · rw [Mm.put_ne h] at z; exact (S.sff q e).1 z
theorem En.b_none (S : En P sf N0 B N M) {p : Addr} (hp : M p = none) : B p = none := by
  rcases e : B p with _ | o
  · rfl
  · exfalso
    by_cases h : sf = some p
    · exact (S.sff p h).1 hp
    · by_cases hh : ∀ q, P.hd = some q → p ≠ q.h
      · rw [S.ext p o h hh e] at hp; cases hp
      · have : ∃ r, P.hd = some r ∧ p = r.h := Classical.byContradiction fun z => hh fun r e1 e2 => z ⟨r, e1, e2⟩
        obtain ⟨r, e1, rfl⟩ := this
        obtain ⟨_, _, _, _, h1, _⟩ := S.wd.w r e1
        rw [h1] at hp; cases hp
theorem SR.setO (S : SR P Γ V sf N0 B oa ρ ρd N M) {i : Nat} {us : List U} {ds : List D} (r : RUs P N us ds) {p : Addr} (hp : M p = none) (hx : ∀ j x, V.exn = some (j, x) → i ≠ j) : SR P Γ V sf N0 B (upO oa i p) (ρ.set i (.ow us)) (ρd.set i (some (.ref p))) N (M.put p (.lst ds)) := by
  have hpn : ∀ q, P.hd = some q → p ≠ q.h ∧ p ≠ q.c := fun q e => (S.wd.w q e).ne hp
  have low : ∀ (j : Nat) (s : Sl), ρ[j]? = some s → SlR P N (M.put p (.lst ds)) (oa j) s ρd[j]? := fun j s e => by
    have q := S.sl j s e
    cases s with
    | no => exact q
    | fz u => exact q
    | ow vs =>
      obtain ⟨h1, h2, es, h3, h4⟩ := q
      exact ⟨h1, h2, es, by rw [Mm.put_ne (S.own_ne e rfl hp)]; exact h3, h4⟩
    | ob g ks vs =>
      obtain ⟨h1, h2, es, h3, h4⟩ := q
      exact ⟨h1, h2, es, by rw [Mm.put_ne (S.own_ne e rfl hp)]; exact h3, h4⟩
  refine ⟨S.toEn.newO hp _, by simp [S.len], fun j s e => ?_, fun j k s t e1 e2 o1 o2 hne => ?_, fun j s e o => ?_, fun j us e => ?_, fun j g ks us e => ?_, fun j x e => ?_⟩
  · rcases sl_get e with ⟨rfl, h, rfl⟩ | ⟨h, e⟩
    · rw [upO_s]
      exact ⟨by rw [List.getElem?_set_self (by rw [← S.len]; exact h)], le_none S.wd.le hp, ds, Mm.put_same, r⟩
    · rw [List.getElem?_set_ne h, upO_n h]; exact low j s e
  · rcases sl_get e1 with ⟨rfl, h, rfl⟩ | ⟨h, e1⟩
    · rcases sl_get e2 with ⟨rfl, h2, rfl⟩ | ⟨h2, e2⟩
      · exact absurd rfl hne
      · rw [upO_s, upO_n h2]; exact Ne.symm (S.own_ne e2 o2 hp)
    · rcases sl_get e2 with ⟨rfl, h2, rfl⟩ | ⟨h2, e2⟩
      · rw [upO_s, upO_n h]; exact S.own_ne e1 o1 hp
      · rw [upO_n h, upO_n h2]; exact S.dj j k s t e1 e2 o1 o2 hne
  · rcases sl_get e with ⟨rfl, h, rfl⟩ | ⟨h, e⟩
    · rw [upO_s]; exact hpn
    · rw [upO_n h]; exact S.nw j s e o
  · rcases sl_get e with ⟨rfl, h, e⟩ | ⟨h, e⟩
    · rw [upO_s]; exact S.toEn.b_none hp
    · rw [upO_n h]; exact S.nb j us e
  · rcases sl_get e with ⟨rfl, h, e⟩ | ⟨h, e⟩
    · cases e
    · rw [upO_n h]; exact S.ob j _ _ _ e
  · obtain ⟨p, C, dx, h1, h2, h3⟩ := S.ex j x e
    exact ⟨p, C, dx, h1, by rw [List.getElem?_set_ne (hx j x e)]; exact h2, h3⟩
theorem SR.upd (S : SR P Γ V sf N0 B oa ρ ρd N M) {i : Nat} {s s' : Sl} {o : MO} (hs : ρ[i]? = some s) (ho : s.own = true) (ho' : s'.own = true) (hk : (∀ us, s' = .ow us → ∃ vs, s = .ow vs) ∧ (∀ g ks us, s' = .ob g ks us → ∃ g' ks' vs, s = .ob g' ks' vs))
    (h : SlR P N (M.put (oa i) o) (oa i) s' ρd[i]?) : SR P Γ V sf N0 B oa (ρ.set i s') ρd N (M.put (oa i) o) := by
  have hn : N (oa i) = none ∧ M (oa i) ≠ none := by
    have q := S.sl i s hs
    cases s with
    | no => cases ho
    | fz u => cases ho
    | ow us => obtain ⟨_, h2, ds, h1, _⟩ := q; exact ⟨h2, by rw [h1]; simp⟩
    | ob g ks us => obtain ⟨_, h2, ds, h1, _⟩ := q; exact ⟨h2, by rw [h1]; simp⟩
  have hq := S.nw i s hs ho
  have hb : ∀ a u, sf ≠ some a → B a = some u → a ≠ oa i := fun a u h1 h2 e => by
    subst e
    cases s with
    | no => cases ho
    | fz u => cases ho
    | ow us => rw [S.nb i us hs] at h2; cases h2
    | ob g ks us => exact h1 (S.ob i _ _ _ hs)
  have low : ∀ (j : Nat) (t : Sl), i ≠ j → ρ[j]? = some t → SlR P N (M.put (oa i) o) (oa j) t ρd[j]? := fun j t hij e => by
    have q := S.sl j t e
    cases t with
    | no => exact q
    | fz u => exact q
    | ow vs =>
      obtain ⟨h1, h2, es, h3, h4⟩ := q
      exact ⟨h1, h2, es, by rw [Mm.put_ne (Ne.symm (S.dj i j _ _ hs e ho rfl hij))]; exact h3, h4⟩
    | ob g ks vs =>
      obtain ⟨h1, h2, es, h3, h4⟩ := q
      exact ⟨h1, h2, es, by rw [Mm.put_ne (Ne.symm (S.dj i j _ _ hs e ho rfl hij))]; exact h3, h4⟩
  refine ⟨⟨⟨fun a u e => ?_, fun q e => (S.wd.w q e).put (hq q e), S.wd.nh⟩, S.le, fun a u h1 h2 h3 => ?_, S.fr, fun p e => ⟨fun z => ?_, (S.sff p e).2⟩⟩, by simp [S.len], fun j t e => ?_, fun j k t u e1 e2 o1 o2 hne => ?_, fun j t e o1 => ?_, fun j us e => ?_, fun j g ks us e => ?_, S.ex⟩
  · have : a ≠ oa i := fun z => by rw [z, hn.1] at e; cases e
    rw [Mm.put_ne this]; exact S.wd.le _ _ e
  · rw [Mm.put_ne (hb a u h1 h3)]; exact S.ext a u h1 h2 h3
  · by_cases h : p = oa i
    · rw [h, Mm.put_same] at z; cases z
    · rw [Mm.put_ne h] at z; exact (S.sff p e).1 z
  · rcases sl_get e with ⟨rfl, h0, rfl⟩ | ⟨h0, e⟩
    · exact h
    · exact low j t h0 e
  · rcases sl_get e1 with ⟨rfl, h1, rfl⟩ | ⟨h1, e1⟩
    · rcases sl_get e2 with ⟨rfl, h2, rfl⟩ | ⟨h2, e2⟩
      · exact absurd rfl hne
      · exact S.dj _ _ _ _ hs e2 ho o2 hne
    · rcases sl_get e2 with ⟨rfl, h2, rfl⟩ | ⟨h2, e2⟩
      · exact S.dj _ _ _ _ e1 hs o1 ho hne
      · exact S.dj j k _ _ e1 e2 o1 o2 hne
  · rcases sl_get e with ⟨rfl, h0, rfl⟩ | ⟨h0, e⟩
    · exact S.nw _ _ hs ho
    · exact S.nw j t e o1
  · rcases sl_get e with ⟨rfl, h0, e⟩ | ⟨h0, e⟩
    · obtain ⟨vs, rfl⟩ := hk.1 us e
      exact S.nb _ _ hs
    · exact S.nb j us e
  · rcases sl_get e with ⟨rfl, h0, e⟩ | ⟨h0, e⟩
    · obtain ⟨g', ks', vs, rfl⟩ := hk.2 _ _ _ e
      exact S.ob _ _ _ _ hs
    · exact S.ob j _ _ _ e
theorem setSl_app (ρ : EnS) : ∀ a b, setSl ρ (a ++ b) = setSl (setSl ρ a) b
  | [], _ => rfl
  | (i, u) :: a, b => setSl_app (ρ.set i (.fz u)) a b
mutual
theorem tgS_rep (hx : V.exn = none) : ∀ (t : Tg) {u : U} {d : D} {bs : List (Nat × U)} {ρ : EnS} {ρd : DEnv} {Q : DEnv → Prop}, bnd t u = some bs → RU P N u d → SR P Γ V sf N0 B oa ρ ρd N M → (∀ ρd', SR P Γ V sf N0 B oa (setSl ρ bs) ρd' N M → Q ρd') → tgD t d ρd Q
  | .nm i, u, d, bs, ρ, ρd, Q, h, r, S, k => by
    simp only [bnd, Option.some.injEq] at h
    subst h
    exact k _ (S.setD r fun j x e => by rw [hx] at e; cases e)
  | .tup ts, u, d, bs, ρ, ρd, Q, h, r, S, k => by
    cases u <;> simp only [bnd] at h <;> try (cases h; done)
    cases r with
    | tup r => exact tgsS_rep hx ts h r S k
theorem tgsS_rep (hx : V.exn = none) : ∀ (t : Tgs) {us : List U} {ds : List D} {bs : List (Nat × U)} {ρ : EnS} {ρd : DEnv} {Q : DEnv → Prop}, bnds t us = some bs → RUs P N us ds → SR P Γ V sf N0 B oa ρ ρd N M → (∀ ρd', SR P Γ V sf N0 B oa (setSl ρ bs) ρd' N M → Q ρd') → tgsD t ds ρd Q
  | .nil, us, ds, bs, ρ, ρd, Q, h, r, S, k => by
    cases us <;> simp only [bnds] at h <;> try (cases h; done)
    cases h
    cases r
    exact k _ S
  | .cons t ts, us, ds, bs, ρ, ρd, Q, h, r, S, k => by
    cases us with
    | nil => simp [bnds] at h
    | cons u us =>
      cases r with
      | cons a r =>
        simp only [bnds] at h
        cases e1 : bnd t u with
        | none => rw [e1] at h; cases h
        | some b1 =>
          cases e2 : bnds ts us with
          | none => rw [e1, e2] at h; cases h
          | some b2 =>
            rw [e1, e2] at h
            cases h
            simp only [tgsD]
            exact tgS_rep hx t e1 a S fun ρ1 S1 => tgsS_rep hx ts e2 r S1 fun ρ2 S2 => k ρ2 (by rw [setSl_app]; exact S2)
end
theorem SR.newF (S : SR P Γ V sf N0 B oa ρ ρd N M) {p : Addr} (hp : M p = none) (o : MO) : SR P Γ V sf N0 B oa ρ ρd (N.put p o) (M.put p o) := by
  have s := S.wd.new hp o
  have low : ∀ (j : Nat) (t : Sl), ρ[j]? = some t → SlR P (N.put p o) (M.put p o) (oa j) t ρd[j]? := fun j t e => by
    have q := S.sl j t e
    cases t with
    | no => exact q
    | fz u => obtain ⟨d, h1, h2⟩ := q; exact ⟨d, h1, h2.mono s.le⟩
    | ow vs =>
      obtain ⟨h1, h2, es, h3, h4⟩ := q
      have := S.own_ne e rfl hp
      exact ⟨h1, by rw [Mm.put_ne this]; exact h2, es, by rw [Mm.put_ne this]; exact h3, h4.mono s.le⟩
    | ob g ks vs =>
      obtain ⟨h1, h2, es, h3, h4, h5⟩ := q
      have := S.own_ne e rfl hp
      exact ⟨h1, by rw [Mm.put_ne this]; exact h2, es, by rw [Mm.put_ne this]; exact h3, h4, h5.mono s.le⟩
  refine ⟨⟨s.wd, Mm.le_trans S.le s.le, fun a u h1 h2 h3 => s.ext a u h2 (S.ext a u h1 h2 h3), fun a h1 h2 => ?_, fun q e => ⟨fun z => ?_, (S.sff q e).2⟩⟩, S.len, low, S.dj, S.nw, S.nb, S.ob, fun i x e => ?_⟩
  · have : a ≠ p := fun z => h2 (by rw [z]; exact S.toEn.b_none hp)
    rw [Mm.put_ne this]
    exact S.fr a h1 h2
  · by_cases h : q = p
    · subst h; rw [Mm.put_same] at z; cases z
    · rw [Mm.put_ne h] at z; exact (S.sff q e).1 z
  · obtain ⟨q, C, dx, h1, h2, h3⟩ := S.ex i x e
    exact ⟨q, C, dx, h1, h2, h3.mono s.le⟩
theorem SR.store (R : VRel P.cl Γ V) {e : Ex} {K : KV} {Kd : KE} {Q : QU} {Qd : QD} (S : SR P Γ V sf N0 B oa ρ ρd N M) (l : L.le N) (k : KR P Γ V sf N0 B L K Kd) (h : vE V e (VL.see (mE e) ρ) (fun x => K.ex x (VL.frz ρ)) Q)
    (kq : ∀ u d N' M', SR P Γ V sf N0 B oa (aft (mE e) (flF e u) ρ) ρd N' M' → N.le N' → RU P N' u d → Q u → Qd d M') : evE Γ e ρd M (fun x => Kd.ex x ρd) Qd := by
  by_cases hf : exFresh e = true
  · refine sEf R hf h (k.ctx S l _) (fun u d N1 M1 s r hl q => ?_) (fun us ds p N1 M1 s r hp q => ?_)
    · obtain ⟨S1, l1⟩ := S.back (mE e) s u.flt (fun z => by cases z)
      have e1 : flF e u = u.flt := by
        unfold flF
        rw [if_pos hf]
        cases u <;> first | rfl | cases hl
      refine kq u d _ M1 ?_ l1 (S.nq_rep s r) q
      rw [e1]; exact S1
    · obtain ⟨S1, l1⟩ := S.back (mE e) s (flts us) (fun z => by cases z)
      have e1 : flF e (.lst us) = flts us := by unfold flF; rw [if_pos hf]
      have S2 := S1.newF hp (.lst ds)
      have w := S1.wd.new hp (.lst ds)
      refine kq (.lst us) _ _ _ ?_ (Mm.le_trans l1 w.le) (.lst Mm.put_same ((S.nqs_rep s r).mono w.le)) q
      rw [e1]; exact S2
  · refine sE R e h (k.ctx S l _) fun u d N1 M1 s r q => ?_
    obtain ⟨S1, l1⟩ := S.back (mE e) s u.flt (fun z => by cases z)
    have e1 : flF e u = u.flt := by unfold flF; rw [if_neg hf]
    refine kq u d _ M1 ?_ l1 (S.nq_rep s r) q
    rw [e1]; exact S1
theorem asg_rep (R : VRel P.cl Γ V) {e : Ex} {i : Nat} {K : KV} {Kd : KE} (S : SR P Γ V sf N0 B oa ρ ρd N M) (l : L.le N) (k : KR P Γ V sf N0 B L K Kd) (hx : ∀ j x, V.exn = some (j, x) → i ≠ j)
    (h : asg V e ρ (fun x => K.ex x (VL.frz ρ)) fun s ρ1 => K.nx (ρ1.set i s)) : evE Γ e ρd M (fun x => Kd.ex x ρd) fun d M1 => Kd.nx (ρd.set i (some d)) M1 := by
  unfold asg at h
  by_cases hf : exFresh e = true
  · refine sEf R hf h (k.ctx S l _) (fun u d N1 M1 s r hl q => ?_) (fun us ds p N1 M1 s r hp q => ?_)
    · obtain ⟨S1, l1⟩ := S.back (mE e) s u.flt (fun z => by cases z)
      have e1 : flF e u = u.flt ∧ slotF e u = .fz u := by
        unfold flF slotF
        rw [if_pos hf, if_pos hf]
        cases u <;> first | exact ⟨rfl, rfl⟩ | cases hl
      rw [e1.1, e1.2] at q
      exact k.nx oa _ _ _ _ (S1.setD (S.nq_rep s r) hx) (Mm.le_trans l l1) q
    · obtain ⟨S1, l1⟩ := S.back (mE e) s (flts us) (fun z => by cases z)
      have e1 : flF e (.lst us) = flts us ∧ slotF e (.lst us) = .ow us := by unfold flF slotF; rw [if_pos hf, if_pos hf]; exact ⟨rfl, rfl⟩
      rw [e1.1, e1.2] at q
      exact k.nx _ _ _ _ _ (S1.setO (S.nqs_rep s r) hp hx) (Mm.le_trans l l1) q
  · refine sE R e h (k.ctx S l _) fun u d N1 M1 s r q => ?_
    obtain ⟨S1, l1⟩ := S.back (mE e) s u.flt (fun z => by cases z)
    have e1 : flF e u = u.flt ∧ slotF e u = .fz u := by unfold flF slotF; rw [if_neg hf, if_neg hf]; exact ⟨rfl, rfl⟩
    rw [e1.1, e1.2] at q
    exact k.nx oa _ _ _ _ (S1.setD (S.nq_rep s r) hx) (Mm.le_trans l l1) q
theorem asgLc_rep (R : VRel P.cl Γ V) {own : List Nat} {tg : Tg} {it : Si} {t : Teo} {e : Ex} {i : Nat} {K : KV} {Kd : KE} (S : SR P Γ V sf N0 B oa ρ ρd N M) (l : L.le N) (k : KR P Γ V sf N0 B L K Kd)
    (h : asgLc V own tg it t e ρ (fun x => K.ex x (VL.frz ρ)) fun s ρ1 => K.nx (ρ1.set i s)) : evE Γ (.lc own tg it t e) ρd M (fun x => Kd.ex x ρd) fun d M1 => Kd.nx (ρd.set i (some d)) M1 := by
  unfold asgLc at h
  obtain ⟨hx, h⟩ := h
  simp only [evE]
  have c := k.ctx S l (mE (.lc own tg it t e))
  refine sI R it h c fun us ds G N1 M1 s1 r hG h => fun p hp => ?_
  have hpn : ∀ q, P.hd = some q → p ≠ q.h ∧ p ≠ q.c := fun q e => (s1.wd.w q e).ne hp
  have s2 := s1.wd.own hp (.lst [])
  refine comp_rep (N0 := N1) hG ?hs (Mm.le_refl _) s2.wd (le_none s1.wd.le hp) Mm.put_same hpn r .nil h ?hk
  case hs =>
    intro u d N2 M2 K Kd l w ru h kk
    obtain ⟨bs, hb, hs⟩ := h
    refine tg_rep hx tg hb ru (((c.on s1).r.mono l).wipe hx own) fun ρ2 R2 => ?_
    refine sC R t hs ⟨R2, w, KX.f⟩ fun b N3 M3 s3 h => ?_
    cases b with
    | true => exact sE R e (show vE V e _ EF _ from h) ⟨R2.mono s3.le, s3.wd, KX.f⟩ fun x dx N4 M4 s4 rx h => kk (some x) (some dx) N4 M4 (s3.trans s4) rx h
    | false => exact kk none none N3 M3 s3 trivial h
  case hk =>
    intro acc accd N' M' l2 e2 f w n mm ra q
    -- the run without the list
    have s : Stp P N1 M1 N' M' := by
      refine ⟨l2, fun a o h1 h2 => ?_, fun a h1 h2 => ?_, w⟩
      · have : a ≠ p := fun z => by rw [z, hp] at h2; cases h2
        exact e2 a o this h1 (by rw [Mm.put_ne this]; exact h2)
      · have : a ≠ p := fun z => h2 (by rw [z]; exact hp)
        exact f a h1 (by rw [Mm.put_ne this]; exact h2)
    obtain ⟨S1, l1⟩ := S.back (mE (.lc own tg it t e)) (s1.trans s) (flts acc) (fun z => by cases z)
    have hMp : M p = none := by
      rcases y : M p with _ | o
      · rfl
      · have := s1.ext p o (fun q e => (hpn q e).1) y
        rw [this] at hp; cases hp
    -- p stands new behind it
    have hrd : RUs P (Nq false oa (mE (.lc own tg it t e)) ρ (flts acc) N') acc accd := S.nqs_rep (s1.trans s) ra
    refine k.nx (upO oa i p) _ _ _ _ ?_ (Mm.le_trans l l1) q
    have own_ne : ∀ (j : Nat) (t' : Sl), (aft (mE (.lc own tg it t e)) (flts acc) ρ)[j]? = some t' → t'.own = true → oa j ≠ p := fun j t' e1 o1 z => by
      rw [aft_get, Nat.zero_add] at e1
      cases e3 : ρ[j]? with
      | none => rw [e3] at e1; cases e1
      | some t0 =>
        rw [e3] at e1
        cases e1
        have : t0.own = true := aft_own o1
        exact S.own_ne e3 this hMp z
    have hnp : Nq false oa (mE (.lc own tg it t e)) ρ (flts acc) N' p = none := by unfold Nq; split <;> first | rfl | exact n
    have hBp : B p = none := S.toEn.b_none hMp
    refine ⟨S1.toEn, by simp [S1.len], fun j s e => ?_, fun j k s t e1 e2 o1 o2 hne => ?_, fun j s e o => ?_, fun j us e => ?_, fun j g ks us e => ?_, fun j x e => by rw [hx] at e; cases e⟩
    · rcases sl_get e with ⟨rfl, h, rfl⟩ | ⟨h, e⟩
      · rw [upO_s]
        exact ⟨by rw [List.getElem?_set_self (by rw [← S1.len]; exact h)], hnp, accd, mm, hrd⟩
      · rw [List.getElem?_set_ne h, upO_n h]; exact S1.sl j s e
    · rcases sl_get e1 with ⟨rfl, h, rfl⟩ | ⟨h, e1⟩
      · rcases sl_get e2 with ⟨rfl, h2, rfl⟩ | ⟨h2, e2⟩
        · exact absurd rfl hne
        · rw [upO_s, upO_n h2]; exact Ne.symm (own_ne _ _ e2 o2)
      · rcases sl_get e2 with ⟨rfl, h2, rfl⟩ | ⟨h2, e2⟩
        · rw [upO_s, upO_n h]; exact own_ne _ _ e1 o1
        · rw [upO_n h, upO_n h2]; exact S1.dj j k s t e1 e2 o1 o2 hne
    · rcases sl_get e with ⟨rfl, h, rfl⟩ | ⟨h, e⟩
      · rw [upO_s]; exact hpn
      · rw [upO_n h]; exact S1.nw j s e o
    · rcases sl_get e with ⟨rfl, h, e⟩ | ⟨h, e⟩
      · rw [upO_s]; exact hBp
      · rw [upO_n h]; exact S1.nb j us e
    · rcases sl_get e with ⟨rfl, h, e⟩ | ⟨h, e⟩
      · cases e
      · rw [upO_n h]; exact S1.ob j _ _ _ e
end
end VL
namespace VL
open PySem PySem.Spec L2 DL LW
section
variable {P : Pl} {Γ : Gm} {V : VM} {sf : Option Addr} {N0 B N M L : Mm} {oa : Nat → Addr} {ρ : EnS} {ρd : DEnv} {m : Nat → Bool}
theorem for_rep {tg : Tg} {b : TSv} {bd : TSd} {K : KV} {Kd : KE} {G : Mm → Prop} {N1 : Mm} (hx : V.exn = none) (k : KR P Γ V sf N0 B N1 K Kd) (hG : ∀ N2 M2 : Mm, N1.le N2 → N2.le M2 → G M2)
    (hb : ∀ (K : KV) (Kd : KE) oa ρ ρd N M, SR P Γ V sf N0 B oa ρ ρd N M → N1.le N → KR P Γ V sf N0 B N1 K Kd → b ρ K → bd ρd M Kd) :
    ∀ {us : List U} {ds : List D} {oa : Nat → Addr} {ρ : EnS} {ρd : DEnv} {N M : Mm}, RUs P N1 us ds → SR P Γ V sf N0 B oa ρ ρd N M → N1.le N → vFor tg b K us ρ → forD G tg bd Kd ds ρd M
  | [], _, oa, ρ, ρd, N, M, .nil, S, l, h => ⟨hG _ _ l S.wd.le, k.nx _ _ _ _ _ S l h⟩
  | u :: us, _, oa, ρ, ρd, N, M, .cons r rs, S, l, h => by
    refine ⟨hG _ _ l S.wd.le, ?_⟩
    obtain ⟨bs, h1, h2⟩ := h
    refine tgS_rep hx tg h1 (r.mono l) S fun ρ1 S1 => ?_
    refine hb { K with nx := vFor tg b K us, ct := vFor tg b K us, bk := K.nx } _ _ _ _ _ _ S1 l ⟨?_, k.rt, ?_, ?_, k.ex⟩ h2
    · exact fun oa ρ ρd N M S l q => for_rep hx k hG hb rs S l q
    · exact fun oa ρ ρd N M S l q => k.nx _ _ _ _ _ S l q
    · exact fun oa ρ ρd N M S l q => for_rep hx k hG hb rs S l q
theorem whl_rep (R : VRel P.cl Γ V) {c : Te} {b : TSv} {bd : TSd} {K : KV} {Kd : KE} (k : KR P Γ V sf N0 B L K Kd)
    (hb : ∀ (K : KV) (Kd : KE) oa ρ ρd N M, SR P Γ V sf N0 B oa ρ ρd N M → L.le N → KR P Γ V sf N0 B L K Kd → b ρ K → bd ρd M Kd) :
    ∀ (n : Nat) {oa : Nat → Addr} {ρ : EnS} {ρd : DEnv} {N M : Mm}, SR P Γ V sf N0 B oa ρ ρd N M → L.le N → vWhl (fun ρ E Q => vT V c (see (mT c) ρ) E Q) b K n ρ → whlD (evT Γ c) bd Kd n ρd M
  | 0, _, _, _, _, _, _, _, h => h
  | n + 1, oa, ρ, ρd, N, M, S, l, h => by
    refine sT R c h (k.ctx S l _) fun q N1 M1 s h => ?_
    obtain ⟨S1, l1⟩ := S.back (mT c) s true (fun z => by cases z)
    rw [show aft (mT c) true ρ = ρ from aft_true 0] at S1
    cases q with
    | false => exact k.nx _ _ _ _ _ S1 (Mm.le_trans l l1) h
    | true =>
      refine hb { K with nx := vWhl (fun ρ E Q => vT V c (VL.see (mT c) ρ) E Q) b K n, ct := vWhl (fun ρ E Q => vT V c (VL.see (mT c) ρ) E Q) b K n, bk := K.nx } _ _ _ _ _ _ S1 (Mm.le_trans l l1) ⟨?_, k.rt, ?_, ?_, k.ex⟩ h
      · exact fun oa ρ ρd N M S l q => whl_rep R k hb n S l q
      · exact fun oa ρ ρd N M S l q => k.nx _ _ _ _ _ S l q
      · exact fun oa ρ ρd N M S l q => whl_rep R k hb n S l q
theorem raise_rep (R : VRel P.cl Γ V) {g : Nat} {us : List U} {ds : List D} {N M : Mm} {Q : Xu → Prop} {Qd : Xd → Mm → Prop} (w : Wd P N M) (r : RUs P N us ds) (h : raiV V g us Q) (k : ∀ x xd N' M', Stp P N M N' M' → RX P N' x xd → Q x → Qd xd M') : raiseD Γ g ds M Qd := by
  unfold raiV at h
  split at h
  · rename_i fs tx e
    have q := R.gv g
    rw [e] at q
    cases e2 : Γ.gv g <;> rw [e2] at q <;> simp only [VGok] at q
    obtain ⟨rfl, rfl, rfl⟩ := q
    obtain ⟨h1, h2, h3, h⟩ := h
    unfold raiseD
    rw [e2]
    refine ⟨h1, by rw [← r.length]; exact h2, fun i hi => ?_, fun dd hd => ?_⟩
    · obtain ⟨u, hu, ht⟩ := h3 i hi
      obtain ⟨d, hd, rd⟩ := r.get hu
      exact ⟨d, hd, txt_rep rd ht⟩
    · exact k _ _ _ _ (w.new hd _) ⟨rfl, .inr ⟨dd, ds, rfl, Mm.put_same, h2.symm, r.mono (w.new hd _).le⟩⟩ h
  · exact h.elim
end
theorem ow_inv {o : Option Sl} (h : isOw o = true) : ∃ us, o = some (.ow us) := by
  unfold isOw at h
  split at h
  · exact ⟨_, rfl⟩
  · cases h
theorem ob_inv {o : Option Sl} (h : isOb o = true) : ∃ g ks us, o = some (.ob g ks us) := by
  unfold isOb at h
  split at h
  · exact ⟨_, _, _, rfl⟩
  · cases h
theorem putD_new {f : Str} {d : D} : ∀ {ks : List Str} {ds : List D}, ks.contains f = false → ks.length = ds.length → putD f d (ks.zip ds) = (ks ++ [f]).zip (ds ++ [d])
  | [], [], _, _ => rfl
  | [], _ :: _, _, h => by cases h
  | _ :: _, [], _, h => by cases h
  | k :: ks, e :: ds, h, hl => by
    simp only [List.contains_cons, Bool.or_eq_false_iff] at h
    have h1 : ¬ k = f := fun e => by
      have := h.1
      rw [e] at this
      simp at this
    simp only [List.zip_cons_cons, List.cons_append, putD, h1, if_false]
    rw [putD_new h.2 (by simpa using hl)]
theorem er_rep {P : Pl} {Γ : Gm} {V : VM} (R : VRel P.cl Γ V) {g : Nat} (h : isErV (V.gv g) = true) : isErr (Γ.gv g) := by
  have q := R.gv g
  cases e : V.gv g <;> rw [e] at h q <;> try (cases h; done)
  cases e2 : Γ.gv g <;> rw [e2] at q <;> simp only [VGok] at q
  trivial
section
mutual
theorem sS : ∀ (s : Sm) {P : Pl} {Γ : Gm} {V : VM} {sf : Option Addr} {N0 B N M L : Mm} {oa : Nat → Addr} {ρ : EnS} {ρd : DEnv} {K : KV} {Kd : KE} (R : VRel P.cl Γ V) (hok : ∀ i x, V.exn = some (i, x) → okS i s = true), vS V s ρ K → SR P Γ V sf N0 B oa ρ ρd N M → L.le N → KR P Γ V sf N0 B L K Kd → evS Γ s ρd M Kd
  | .set i e, P, Γ, V, sf, N0, B, N, M, L, oa, ρ, ρd, K, Kd, R, hok, h, S, l, k => by
    simp only [vS] at h
    simp only [evS]
    exact asg_rep R S l k (fun j x e z => by have := hok j x e; simp [okS] at this; exact this z) h
  | .setLc i own tg it c e, P, Γ, V, sf, N0, B, N, M, L, oa, ρ, ρd, K, Kd, R, hok, h, S, l, k => by
    simp only [vS] at h
    simp only [evS]
    exact asgLc_rep R S l k h
  | .setT tg e, P, Γ, V, sf, N0, B, N, M, L, oa, ρ, ρd, K, Kd, R, hok, h, S, l, k => by
    simp only [vS] at h
    simp only [evS]
    obtain ⟨hx, h⟩ := h
    refine sE R e h (k.ctx S l _) fun u d N1 M1 s r q => ?_
    obtain ⟨S1, l1⟩ := S.back (mE e) s u.flt (fun z => by cases z)
    obtain ⟨bs, hb, q⟩ := q
    exact tgS_rep hx tg hb (S.nq_rep s r) S1 fun ρ1 S2 => k.nx _ _ _ _ _ S2 (Mm.le_trans l l1) q
  | .par i j a b, P, Γ, V, sf, N0, B, N, M, L, oa, ρ, ρd, K, Kd, R, hok, h, S, l, k => by
    simp only [vS] at h
    simp only [evS]
    obtain ⟨hx, h⟩ := h
    have c := k.ctx S l (fun n => mE a n || mE b n)
    have nx : ∀ {i : Nat} j x, V.exn = some (j, x) → i ≠ j := fun j x e => by rw [hx] at e; cases e
    refine sE R a h c fun u d N1 M1 s r h => sE R b h (c.on s) fun v e N2 M2 s2 r2 q => ?_
    obtain ⟨S1, l1⟩ := S.back (fun n => mE a n || mE b n) (s.trans s2) (u.flt && v.flt) (fun z => by cases z)
    refine k.nx _ _ _ _ _ ((S1.setD (u := u) ?_ nx).setD (u := v) ?_ nx) (Mm.le_trans l l1) q
    · cases e1 : u.flt with
      | true => exact flt_rep0 (S.nq_ins (s.trans s2)) (r.mono s2.le) e1
      | false => rw [Bool.false_and, nq_false]; exact r.mono s2.le
    · cases e1 : v.flt with
      | true => exact flt_rep0 (S.nq_ins (s.trans s2)) r2 e1
      | false => rw [Bool.and_false, nq_false]; exact r2
  | .setS a b e, P, Γ, V, sf, N0, B, N, M, L, oa, ρ, ρd, K, Kd, R, hok, h, S, l, k => by
    simp only [vS] at h
    simp only [evS]
    cases a <;> try (exact h.elim)
    rename_i i
    obtain ⟨hw, h⟩ := h
    obtain ⟨us, hi⟩ := ow_inv hw
    have hs := (S.sl i _ hi).1
    simp only [evE, hs]
    refine S.store R l k h fun u d N1 M1 S1 l1 r h => ?_
    have c := k.ctx S1 (Mm.le_trans l l1) (mE b)
    rw [frz_aft] at c
    refine sE R b h c fun y dy N2 M2 s2 ry q => ?_
    obtain ⟨S2, l2⟩ := S1.back (mE b) s2 true (fun z => by cases z)
    rw [show aft (mE b) true (aft (mE e) (flF e u) ρ) = aft (mE e) (flF e u) ρ from aft_true 0] at S2
    unfold setSV at q
    split at q
    · rename_i kk us e1
      obtain ⟨j, hj, q⟩ := q
      obtain ⟨z1, z2, ds, z3, z4⟩ := S2.sl i _ e1
      cases ry
      refine ⟨ds, j, z3, by rw [← z4.length]; exact hj, ?_⟩
      refine k.nx oa _ _ _ _ (S2.upd (s' := .ow (us.set j u)) e1 rfl rfl ⟨fun _ _ => ⟨us, rfl⟩, fun _ _ _ z => by cases z⟩ ⟨z1, z2, _, Mm.put_same, ?_⟩) (Mm.le_trans l (Mm.le_trans l1 l2)) q
      exact z4.set (r.mono l2) j
    · exact q.elim
  | .setF a f e, P, Γ, V, sf, N0, B, N, M, L, oa, ρ, ρd, K, Kd, R, hok, h, S, l, k => by
    simp only [vS] at h
    simp only [evS]
    cases a <;> try (exact h.elim)
    rename_i i
    obtain ⟨hw, h⟩ := h
    obtain ⟨g, ks, us, hi⟩ := ob_inv hw
    have hs := (S.sl i _ hi).1
    simp only [evE, hs]
    refine sE R e h (S.ctO (mE e) fun x xd N1 M1 S1 l1 rx h => k.ex oa x xd _ _ N1 M1 S1 (Mm.le_trans l l1) rx h) fun u d N1 M1 s r q => ?_
    obtain ⟨S1, l1⟩ := S.back (mE e) s true (fun _ => rfl)
    rw [show aft (mE e) true ρ = ρ from aft_true 0] at S1
    obtain ⟨hz, q⟩ := q
    unfold setFV at q
    split at q
    · rename_i g ks us e1
      obtain ⟨q1, q2, q3, q⟩ := q
      obtain ⟨z1, z2, ds, z3, z4, z5⟩ := S1.sl i _ e1
      have hl := z5.length
      refine ⟨_, _, z3, R.fld _ _ q1, by rw [List.length_zip]; omega, ?_⟩
      rw [putD_new q2 (by omega)]
      refine k.nx oa _ _ _ _ (S1.upd (s' := .ob g (ks ++ [f]) (us ++ [u])) e1 rfl rfl ⟨fun _ z => (by cases z), fun _ _ _ _ => ⟨_, _, _, rfl⟩⟩ ⟨z1, z2, _, Mm.put_same, by simp [z4], ?_⟩) (Mm.le_trans l l1) q
      exact z5.append (.cons (flz_rep r hz) .nil)
    · exact q.elim
  | .set2 tg i e, P, Γ, V, sf, N0, B, N, M, L, oa, ρ, ρd, K, Kd, R, hok, h, S, l, k => by
    simp only [vS] at h
    simp only [evS]
    obtain ⟨hx, h⟩ := h
    refine sE R e h (k.ctx S l _) fun u d N1 M1 s r q => ?_
    obtain ⟨S1, l1⟩ := S.back (mE e) s u.flt (fun z => by cases z)
    obtain ⟨bs, hb, q⟩ := q
    exact tgS_rep hx tg hb (S.nq_rep s r) S1 fun ρ1 S2 => k.nx _ _ _ _ _ (S2.setD (S.nq_rep s r) fun j x e => by rw [hx] at e; cases e) (Mm.le_trans l l1) q
  | .setTl ts e, P, Γ, V, sf, N0, B, N, M, L, oa, ρ, ρd, K, Kd, R, hok, h, S, l, k => by
    simp only [vS] at h
    simp only [evS]
    obtain ⟨hx, h⟩ := h
    refine sE R e h (k.ctx S l _) fun u d N1 M1 s r q => ?_
    obtain ⟨S1, l1⟩ := S.back (mE e) s false (fun z => by cases z)
    obtain ⟨us, bs, hu, hb, q⟩ := q
    rw [nq_false] at S1 l1
    cases r with
    | tup b1 =>
      cases hu
      exact tgsS_rep hx ts hb b1 S1 fun ρ1 S2 => k.nx _ _ _ _ _ S2 (Mm.le_trans l l1) q
    | lst a1 b1 =>
      cases hu
      exact ⟨_, s.wd.le _ _ a1, tgsS_rep hx ts hb b1 S1 fun ρ1 S2 => k.nx _ _ _ _ _ S2 (Mm.le_trans l l1) q⟩
    | _ => cases hu
  | .ret e, P, Γ, V, sf, N0, B, N, M, L, oa, ρ, ρd, K, Kd, R, hok, h, S, l, k => by
    simp only [vS] at h
    simp only [evS]
    refine sE R e h (k.ctx S l _) fun u d N1 M1 s r q => ?_
    obtain ⟨S1, l1⟩ := S.back (mE e) s false (fun z => by cases z)
    rw [nq_false] at S1
    exact k.rt u d _ _ S1.toEn r q
  | .retN, P, Γ, V, sf, N0, B, N, M, L, oa, ρ, ρd, K, Kd, R, hok, h, S, l, k => by
    simp only [vS] at h
    simp only [evS]
    exact k.rt .non .non _ _ S.toEn .non h
  | .expr e, P, Γ, V, sf, N0, B, N, M, L, oa, ρ, ρd, K, Kd, R, hok, h, S, l, k => by
    simp only [vS] at h
    simp only [evS]
    unfold expV at h
    split at h
    · rename_i i a
      obtain ⟨hw, h⟩ := h
      obtain ⟨us, hi⟩ := ow_inv hw
      obtain ⟨hs, _, ds0, hd0, _⟩ := S.sl i _ hi
      simp only [evE, hs, evEs]
      refine ⟨⟨ds0, .inl hd0⟩, S.store R l k h fun u d N1 M1 S1 l1 r q => ?_⟩
      unfold appV at q
      split at q
      · rename_i us e1
        obtain ⟨z1, z2, ds, z3, z4⟩ := S1.sl i _ e1
        refine ⟨ds, z3, by rw [← z4.length]; exact q.1, ?_⟩
        refine k.nx oa _ _ _ _ (S1.upd (s' := .ow (us ++ [u])) e1 rfl rfl ⟨fun _ _ => ⟨us, rfl⟩, fun _ _ _ z => by cases z⟩ ⟨z1, z2, _, Mm.put_same, ?_⟩) (Mm.le_trans l l1) q.2
        exact z4.append (.cons r .nil)
      · exact q.elim
    · refine sE R e h (k.ctx S l _) fun u d N1 M1 s r q => ?_
      obtain ⟨S1, l1⟩ := S.back (mE e) s true (fun z => by cases z)
      rw [show aft (mE e) true ρ = ρ from aft_true 0] at S1
      exact k.nx _ _ _ _ _ S1 (Mm.le_trans l l1) q
  | .ifs c a b, P, Γ, V, sf, N0, B, N, M, L, oa, ρ, ρd, K, Kd, R, hok, h, S, l, k => by
    simp only [vS] at h
    simp only [evS]
    refine sT R c h (k.ctx S l _) fun q N1 M1 s h => ?_
    obtain ⟨S1, l1⟩ := S.back (mT c) s true (fun z => by cases z)
    rw [show aft (mT c) true ρ = ρ from aft_true 0] at S1
    have hk : ∀ i x, V.exn = some (i, x) → okSs i a = true ∧ okSs i b = true := fun i x e => by
      have := hok i x e
      simp only [okS, Bool.and_eq_true] at this
      exact this
    cases q with
    | true => exact sSs a R (fun i x e => (hk i x e).1) (show vSs V a ρ K from h) S1 (Mm.le_trans l l1) k
    | false => exact sSs b R (fun i x e => (hk i x e).2) (show vSs V b ρ K from h) S1 (Mm.le_trans l l1) k
  | .whl c b, P, Γ, V, sf, N0, B, N, M, L, oa, ρ, ρd, K, Kd, R, hok, h, S, l, k => by
    simp only [vS] at h
    simp only [evS]
    obtain ⟨n, h⟩ := h
    have hx : ∀ i x, V.exn = some (i, x) → okSs i b = true := fun i x e => by
      have := hok i x e
      simp [okS] at this
    exact ⟨n, whl_rep R k (fun K Kd oa ρ ρd N M S l k h => sSs b R hx h S l k) n S l h⟩
  | .fo tg it b, P, Γ, V, sf, N0, B, N, M, L, oa, ρ, ρd, K, Kd, R, hok, h, S, l, k => by
    simp only [vS] at h
    simp only [evS]
    obtain ⟨hx, h⟩ := h
    have hk : ∀ i x, V.exn = some (i, x) → okSs i b = true := fun i x e => by rw [hx] at e; cases e
    have fin : ∀ (M1 N2 : Mm) (ρ2 : EnS) (us : List U) (ds : List D) (G : Mm → Prop), SR P Γ V sf N0 B oa ρ2 ρd N2 M1 → N.le N2 → RUs P N2 us ds → (∀ N3 M3 : Mm, N2.le N3 → N3.le M3 → G M3) → vFor tg (vSs V b) K us ρ2 → forD G tg (evSs Γ b) Kd ds ρd M1 := fun M1 N2 ρ2 us ds G S2 l2 r2 hG2 h2 =>
      for_rep (N1 := N2) hx ⟨fun oa ρ ρd N M S l3 q => k.nx _ _ _ _ _ S (Mm.le_trans (Mm.le_trans l l2) l3) q, k.rt, fun oa ρ ρd N M S l3 q => k.bk _ _ _ _ _ S (Mm.le_trans (Mm.le_trans l l2) l3) q, fun oa ρ ρd N M S l3 q => k.ct _ _ _ _ _ S (Mm.le_trans (Mm.le_trans l l2) l3) q, fun oa x xd ρ ρd N M S l3 rx q => k.ex _ _ _ _ _ _ _ S (Mm.le_trans (Mm.le_trans l l2) l3) rx q⟩ hG2 (fun K Kd oa ρ ρd N M S l k h => sSs b R hk h S l k) r2 S2 (Mm.le_refl _) h2
    have finS : ∀ {m : Nat → Bool} (us : List U) (ds : List D) (G : Mm → Prop) (N1 M1 : Mm), Stp P (Np false oa m ρ N M) M N1 M1 → RUs P N1 us ds → (∀ N3 M3 : Mm, N1.le N3 → N3.le M3 → G M3) → vFor tg (vSs V b) K us (aft m false ρ) → forD G tg (evSs Γ b) Kd ds ρd M1 := fun {m} us ds G N1 M1 s r hG h => by
      obtain ⟨S2, l2⟩ := S.back m s false (fun z => by cases z)
      rw [nq_false] at S2 l2
      exact fin _ _ _ _ _ _ S2 l2 r hG h
    have finR : ∀ {m : Nat → Bool} (f : Nat → Int) (n : Nat) (N1 M1 : Mm), Stp P (Np false oa m ρ N M) M N1 M1 → vFor tg (vSs V b) K ((List.range n).map fun i => U.int (f i)) ρ → forD (fun _ => True) tg (evSs Γ b) Kd ((List.range n).map fun i => D.int (f i)) ρd M1 := fun {m} f n N1 M1 s h => by
      obtain ⟨S2, l2⟩ := S.back m s true (fun z => by cases z)
      rw [show aft m true ρ = ρ from aft_true 0] at S2
      exact fin _ _ _ _ _ _ S2 l2 (RUs.ints f _) (fun _ _ _ _ => trivial) h
    cases it with
    | seq e => exact sI R (.seq e) h (k.ctx S l _) fun us ds G N1 M1 s r hG h => finS us ds G N1 M1 s r hG h
    | rev e => exact sI R (.rev e) h (k.ctx S l _) fun us ds G N1 M1 s r hG h => finS us ds G N1 M1 s r hG h
    | enm e => exact sI R (.enm e) h (k.ctx S l _) fun us ds G N1 M1 s r hG h => finS us ds G N1 M1 s r hG h
    | zip e e2 => exact sI R (.zip e e2) h (k.ctx S l _) fun us ds G N1 M1 s r hG h => finS us ds G N1 M1 s r hG h
    | rng1 a =>
      simp only [vI] at h
      simp only [evI]
      refine sE R a h (k.ctx S l _) fun x dx N1 M1 s1 rx h => ?_
      cases x <;> try (exact h.elim)
      cases rx
      exact ⟨h.1, finR (fun i => 0 + (i : Nat)) _ N1 M1 s1 h.2⟩
    | rng2 a a2 =>
      simp only [vI] at h
      simp only [evI]
      have c := k.ctx S l (mI (.rng2 a a2))
      refine sE R a h c fun x dx N1 M1 s1 rx h => sE R a2 h (c.on s1) fun y dy N2 M2 s2 ry h => ?_
      cases x <;> cases y <;> try (exact h.elim)
      cases rx; cases ry
      exact ⟨h.1, h.2.1, finR (fun n => _ + (n : Nat)) _ N2 M2 (s1.trans s2) h.2.2⟩
    | rng3 a a2 a3 =>
      simp only [vI] at h
      simp only [evI]
      have c := k.ctx S l (mI (.rng3 a a2 a3))
      refine sE R a h c fun x dx N1 M1 s1 rx h => sE R a2 h (c.on s1) fun y dy N2 M2 s2 ry h => sE R a3 h ((c.on s1).on s2) fun z dz N3 M3 s3 rz h => ?_
      cases x <;> cases y <;> cases z <;> try (exact h.elim)
      cases rx; cases ry; cases rz
      obtain ⟨n, hn, q⟩ := h
      exact ⟨n, hn, finR (fun n => _ + (n : Nat) * _) _ N3 M3 ((s1.trans s2).trans s3) q⟩
  | .pass, P, Γ, V, sf, N0, B, N, M, L, oa, ρ, ρd, K, Kd, R, hok, h, S, l, k => by simp only [vS] at h; simp only [evS]; exact k.nx _ _ _ _ _ S l h
  | .brk, P, Γ, V, sf, N0, B, N, M, L, oa, ρ, ρd, K, Kd, R, hok, h, S, l, k => by simp only [vS] at h; simp only [evS]; exact k.bk _ _ _ _ _ S l h
  | .cont, P, Γ, V, sf, N0, B, N, M, L, oa, ρ, ρd, K, Kd, R, hok, h, S, l, k => by simp only [vS] at h; simp only [evS]; exact k.ct _ _ _ _ _ S l h
  | .never, P, Γ, V, sf, N0, B, N, M, L, oa, ρ, ρd, K, Kd, R, hok, h, S, l, k => by simp only [vS] at h
  | .raise g es, P, Γ, V, sf, N0, B, N, M, L, oa, ρ, ρd, K, Kd, R, hok, h, S, l, k => by
    simp only [vS] at h
    simp only [evS]
    obtain ⟨he, h⟩ := h
    have c := k.ctx S l (mEs es)
    refine ⟨er_rep R he, sEs R es h c fun us ds N1 M1 s r h => raise_rep R s.wd r h fun x xd N2 M2 s2 rx q => (c.on s).x x xd N2 M2 s2 rx q⟩
  | .raise0 g, P, Γ, V, sf, N0, B, N, M, L, oa, ρ, ρd, K, Kd, R, hok, h, S, l, k => by
    simp only [vS] at h
    simp only [evS]
    have c := k.ctx S l (fun _ => false)
    unfold rai0V at h
    split at h
    · rename_i e
      have q := R.gv g
      rw [e] at q
      unfold raise0D
      cases e2 : Γ.gv g <;> rw [e2] at q <;> simp only [VGok] at q
      obtain ⟨rfl, rfl, rfl⟩ := q
      exact c.x _ _ _ _ (Stp.refl c.w) ⟨rfl, .inl ⟨rfl, rfl⟩⟩ h
    · exact h.elim
  | .trA b i g s, P, Γ, V, sf, N0, B, N, M, L, oa, ρ, ρd, K, Kd, R, hok, h, S, l, k => by
    simp only [vS] at h
    simp only [evS]
    have hb : ∀ i x, V.exn = some (i, x) → okSs i b = true := fun i x e => by have := hok i x e; simp [okS] at this
    refine sSs b R hb h S l ⟨k.nx, k.rt, k.bk, k.ct, fun oa x xd ρ1 ρd1 N1 M1 S1 l1 rx q => ?_⟩
    obtain ⟨hx, hs, hi, hc, kk, hk, q1, q2⟩ := q
    obtain ⟨xc, xf⟩ := rx
    refine ⟨_, kk, err_cls R hc, by rw [xc]; exact R.sub _ _ _ hk, fun e a ha => ?_, fun e => k.ex oa x xd _ _ _ _ S1 l1 ⟨xc, xf⟩ (q2 e)⟩
    have R' : VRel P.cl { Γ with exn := some (a, xd.C, xd.d) } { V with exn := some (i, x) } := ⟨R.gv, R.fld, R.sub, R.xfl, R.kwc, R.mt, R.pr, R.isi, R.nf⟩
    have drop : ∀ {V' : VM} {Γ' : Gm} {oa ρ2 ρd2 N2 M2}, SR P Γ' V' sf N0 B oa ρ2 ρd2 N2 M2 → ∀ {d : Option D} , SR P Γ V sf N0 B oa (ρ2.set i .no) (ρd2.set i d) N2 M2 := fun {V' Γ' oa ρ2 ρd2 N2 M2} S2 {d} => by
      refine ⟨S2.toEn, by simp [S2.len], fun j t e => ?_, fun j k t u e1 e2 o1 o2 hne => ?_, fun j t e o => ?_, fun j us e => ?_, fun j g ks us e => ?_, fun j x e => by rw [hx] at e; cases e⟩
      · rcases sl_get e with ⟨rfl, h, rfl⟩ | ⟨h, e⟩
        · exact trivial
        · rw [List.getElem?_set_ne h]; exact S2.sl j t e
      · rcases sl_get e1 with ⟨rfl, h, rfl⟩ | ⟨h, e1⟩
        · cases o1
        rcases sl_get e2 with ⟨rfl, h, rfl⟩ | ⟨h, e2⟩
        · cases o2
        exact S2.dj j k t u e1 e2 o1 o2 hne
      · rcases sl_get e with ⟨rfl, h, rfl⟩ | ⟨h, e⟩
        · cases o
        · exact S2.nw j t e o
      · rcases sl_get e with ⟨rfl, h, e⟩ | ⟨h, e⟩
        · cases e
        · exact S2.nb j us e
      · rcases sl_get e with ⟨rfl, h, e⟩ | ⟨h, e⟩
        · cases e
        · exact S2.ob j _ _ _ e
    have S2 : SR P { Γ with exn := some (a, xd.C, xd.d) } { V with exn := some (i, x) } sf N0 B oa (ρ1.set i .no) (ρd1.set i (some (.ref a))) N1 M1 := by
      have z := drop S1 (d := some (.ref a))
      refine ⟨z.toEn, z.len, z.sl, z.dj, z.nw, z.nb, z.ob, fun j y e => ?_⟩
      cases e
      exact ⟨a, xd.C, xd.d, rfl, by rw [List.getElem?_set_self (by rw [← S1.len]; exact hi)], xc, xf⟩
    refine sSs s R' (fun j y e => by cases e; exact hs) (q1 e) S2 l1 ⟨?_, k.rt, ?_, ?_, fun _ _ _ _ _ _ _ _ _ _ z => z.elim⟩
    · exact fun oa ρ ρd N M S l q => k.nx _ _ _ _ _ (drop S) l q
    · exact fun oa ρ ρd N M S l q => k.bk _ _ _ _ _ (drop S) l q
    · exact fun oa ρ ρd N M S l q => k.ct _ _ _ _ _ (drop S) l q
  | .trO b g s, P, Γ, V, sf, N0, B, N, M, L, oa, ρ, ρd, K, Kd, R, hok, h, S, l, k => by
    simp only [vS] at h
    simp only [evS]
    have hb : ∀ i x, V.exn = some (i, x) → okSs i b = true := fun i x e => by have := hok i x e; simp [okS] at this
    refine sSs b R hb h S l ⟨k.nx, k.rt, k.bk, k.ct, fun oa x xd ρ1 ρd1 N1 M1 S1 l1 rx q => ?_⟩
    obtain ⟨hx, hc, kk, hk, q1, q2⟩ := q
    obtain ⟨xc, xf⟩ := rx
    refine ⟨_, kk, err_cls R hc, by rw [xc]; exact R.sub _ _ _ hk, fun e a ha => ?_, fun e => k.ex oa x xd _ _ _ _ S1 l1 ⟨xc, xf⟩ (q2 e)⟩
    have R' : VRel P.cl { Γ with exn := some (a, xd.C, xd.d) } V := ⟨R.gv, R.fld, R.sub, R.xfl, R.kwc, R.mt, R.pr, R.isi, R.nf⟩
    have to : ∀ {Γ1 Γ2 : Gm} {oa ρ2 ρd2 N2 M2}, SR P Γ1 V sf N0 B oa ρ2 ρd2 N2 M2 → SR P Γ2 V sf N0 B oa ρ2 ρd2 N2 M2 := fun z => ⟨z.toEn, z.len, z.sl, z.dj, z.nw, z.nb, z.ob, fun j y e => by rw [hx] at e; cases e⟩
    refine sSs s R' (fun j y e => by rw [hx] at e; cases e) (q1 e) (to S1) l1 ⟨?_, k.rt, ?_, ?_, fun _ _ _ _ _ _ _ _ _ _ z => z.elim⟩
    · exact fun oa ρ ρd N M S l q => k.nx _ _ _ _ _ (to S) l q
    · exact fun oa ρ ρd N M S l q => k.bk _ _ _ _ _ (to S) l q
    · exact fun oa ρ ρd N M S l q => k.ct _ _ _ _ _ (to S) l q
theorem sSs : ∀ (ss : Sms) {P : Pl} {Γ : Gm} {V : VM} {sf : Option Addr} {N0 B N M L : Mm} {oa : Nat → Addr} {ρ : EnS} {ρd : DEnv} {K : KV} {Kd : KE} (R : VRel P.cl Γ V) (hok : ∀ i x, V.exn = some (i, x) → okSs i ss = true), vSs V ss ρ K → SR P Γ V sf N0 B oa ρ ρd N M → L.le N → KR P Γ V sf N0 B L K Kd → evSs Γ ss ρd M Kd
  | .nil, P, Γ, V, sf, N0, B, N, M, L, oa, ρ, ρd, K, Kd, R, hok, h, S, l, k => by
    simp only [vSs] at h
    simp only [evSs]
    exact k.nx _ _ _ _ _ S l h
  | .cons s ss, P, Γ, V, sf, N0, B, N, M, L, oa, ρ, ρd, K, Kd, R, hok, h, S, l, k => by
    simp only [vSs] at h
    simp only [evSs]
    have hk : ∀ i x, V.exn = some (i, x) → okS i s = true ∧ okSs i ss = true := fun i x e => by
      have := hok i x e
      simp only [okSs, Bool.and_eq_true] at this
      exact this
    exact sS s R (fun i x e => (hk i x e).1) h S l ⟨fun oa ρ ρd N M S l q => sSs ss R (fun i x e => (hk i x e).2) q S l k, k.rt, k.bk, k.ct, k.ex⟩
end
end
end VL
namespace VL
open PySem PySem.Spec L2 DL LW
def fzs (us : List U) (n : Nat) : EnS := us.map Sl.fz ++ List.replicate (n - us.length) .no
def kvB (E : EU) (Q : QU) : KV := { nx := fun _ => Q .non, rt := Q, ex := fun x _ => E x }
def bodyV (V : VM) (n : Nat) (m : Sms) (us : List U) (E : EU) (Q : QU) : Prop := vSs V m (fzs us n) (kvB E Q)
def kvI (g : Nat) (E : EU) (Q : List Str → List U → Prop) : KV := { nx := fun ρ => ∃ ks us, ρ[0]? = some (.ob g ks us) ∧ Q ks us, rt := fun _ => False, ex := fun x _ => E x }
def bodyI (V : VM) (g n : Nat) (m : Sms) (us : List U) (E : EU) (Q : List Str → List U → Prop) : Prop := vSs V m (.ob g [] [] :: fzs us (n - 1)) (kvI g E Q)
section
variable {cl : Nat → Addr} {Γ : Gm} {V : VM}
theorem fzs_get {us : List U} {n i : Nat} {s : Sl} (h : (fzs us n)[i]? = some s) : s = .no ∨ ∃ u, us[i]? = some u ∧ s = .fz u := by
  unfold fzs at h
  by_cases hi : i < us.length
  · rw [List.getElem?_append_left (by simpa using hi), List.getElem?_map] at h
    cases e : us[i]? with
    | none => rw [e] at h; cases h
    | some u => rw [e] at h; cases h; exact .inr ⟨u, rfl, rfl⟩
  · rw [List.getElem?_append_right (by simpa using hi), List.getElem?_replicate] at h
    split at h <;> cases h
    exact .inl rfl
theorem ds_get {ds : List D} {n i : Nat} {d : D} (h : ds[i]? = some d) : (ds.map some ++ List.replicate (n - ds.length) none)[i]? = some (some d) := by
  have hl : i < ds.length := by
    rcases Nat.lt_or_ge i ds.length with q | q
    · exact q
    · rw [List.getElem?_eq_none q] at h; cases h
  rw [List.getElem?_append_left (by simpa using hl), List.getElem?_map, h]
  rfl
theorem vFn (R : VRel cl Γ V) (hx : V.exn = none) {n N : Nat} {m : Sms} {sp : VSp} (hp : ∀ us E Q, us.length = n → sp us E Q → bodyV V N m us E Q) : ∀ ds M E Q, ds.length = n → LSp cl sp ds M E Q → bodyD Γ N m ds M E Q := by
  rintro ds M E Q hl ⟨hd, us, N0, Eu, Qu, w, r, h, kq, kx⟩
  have h := hp us Eu Qu (r.length.trans hl) h
  unfold bodyV at h
  have sl : ∀ (i : Nat) (s : Sl), (fzs us N)[i]? = some s → s = .no ∨ ∃ u, us[i]? = some u ∧ s = .fz u := fun i s e => fzs_get e
  refine sSs m R (P := ⟨cl, hd⟩) (sf := none) (N0 := N0) (B := M) (L := N0) (oa := fun _ => w.casesOn fun _ _ _ => (0 : Nat)) (ρ := fzs us N) (fun i x e => by rw [hx] at e; cases e) h ⟨⟨w, Mm.le_refl _, fun _ _ _ _ e => e, fun _ e _ => e, fun _ e => by cases e⟩, by simp [fzs, r.length], fun i s e => ?_, fun i j s t e1 e2 o1 o2 => ?_, fun i s e o => ?_, fun i us e => ?_, fun i g ks us e => ?_, fun i x e => by rw [hx] at e; cases e⟩ (Mm.le_refl _) ⟨?_, ?_, fun _ _ _ _ _ _ _ z => z.elim, fun _ _ _ _ _ _ _ z => z.elim, ?_⟩
  · rcases sl i s e with rfl | ⟨u, hu, rfl⟩
    · exact trivial
    · obtain ⟨d, h1, h2⟩ := r.get hu
      exact ⟨d, ds_get h1, h2⟩
  · rcases sl i s e1 with rfl | ⟨u, hu, rfl⟩ <;> cases o1
  · rcases sl i s e with rfl | ⟨u, hu, rfl⟩ <;> cases o
  · rcases sl i _ e with h | ⟨u, hu, h⟩ <;> cases h
  · rcases sl i _ e with h | ⟨u, hu, h⟩ <;> cases h
  · exact fun oa ρ ρd N1 M1 S l q => kq .non .non N1 M1 ⟨S.le, fun a o h1 h2 => S.ext a o (by simp) h1 h2, S.fr, S.wd⟩ .non q
  · exact fun u d N1 M1 S ru q => kq u d N1 M1 ⟨S.le, fun a o h1 h2 => S.ext a o (by simp) h1 h2, S.fr, S.wd⟩ ru q
  · exact fun oa x xd ρ ρd N1 M1 S l rx q => kx x xd N1 M1 ⟨S.le, fun a o h1 h2 => S.ext a o (by simp) h1 h2, S.fr, S.wd⟩ rx q
theorem vIni (R : VRel cl Γ V) (hx : V.exn = none) {g n N : Nat} {m : Sms} {sp : VSi} (hN : 0 < N) (hp : ∀ us E Q, us.length + 1 = n → sp us E Q → bodyI V g N m us E Q) : ∀ ds M E Q, ds.length = n → LSi cl g sp ds M E Q → bodyD Γ N m ds M E Q := by
  rintro ds M E Q hl ⟨hd, p, ds', us, N0, Eu, Qu, rfl, hM, hNp, hne, w, r, h, kq, kx⟩
  have h := hp us Eu Qu (by rw [r.length]; exact hl) h
  unfold bodyI at h
  have sl : ∀ (i : Nat) (s : Sl), (Sl.ob g [] [] :: fzs us (N - 1))[i]? = some s → (i = 0 ∧ s = .ob g [] []) ∨ s = .no ∨ ∃ u j, i = j + 1 ∧ us[j]? = some u ∧ s = .fz u := fun i s e => by
    cases i with
    | zero => cases e; exact .inl ⟨rfl, rfl⟩
    | succ i =>
      rcases fzs_get (by simpa using e) with h | ⟨u, hu, h⟩
      · exact .inr (.inl h)
      · exact .inr (.inr ⟨u, i, rfl, hu, h⟩)
  have fin : ∀ {N1 M1}, En ⟨cl, hd⟩ (some p) N0 M N1 M1 → StpI ⟨cl, hd⟩ p N0 M N1 M1 := fun S => ⟨S.le, fun a o h1 h2 h3 => S.ext a o (fun e => h1 (Option.some.inj e).symm) h2 h3, S.fr, S.wd⟩
  refine sSs m R (P := ⟨cl, hd⟩) (sf := some p) (N0 := N0) (B := M) (L := N0) (oa := fun _ => p) (ρ := .ob g [] [] :: fzs us (N - 1)) (fun i x e => by rw [hx] at e; cases e) h ⟨⟨w, Mm.le_refl _, fun _ _ _ _ e => e, fun _ e _ => e, fun q e => by cases e; exact ⟨by rw [hM]; simp, hne⟩⟩, ?_, fun i s e => ?_, fun i j s t e1 e2 o1 o2 hij => ?_, fun i s e o => hne, fun i us e => ?_, fun i g ks us e => rfl, fun i x e => by rw [hx] at e; cases e⟩ (Mm.le_refl _) ⟨?_, fun _ _ _ _ _ _ z => z.elim, fun _ _ _ _ _ _ _ z => z.elim, fun _ _ _ _ _ _ _ z => z.elim, ?_⟩
  · simp [fzs, r.length]; omega
  · rcases sl i s e with ⟨rfl, rfl⟩ | rfl | ⟨u, j, rfl, hu, rfl⟩
    · exact ⟨rfl, hNp, [], hM, rfl, .nil⟩
    · exact trivial
    · obtain ⟨d, h1, h2⟩ := r.get hu
      refine ⟨d, ?_, h2⟩
      exact ds_get (ds := .ref p :: ds') (by simpa using h1)
  · rcases sl i s e1 with ⟨rfl, rfl⟩ | rfl | ⟨u, k, rfl, hu, rfl⟩ <;> first | (cases o1; done) | skip
    rcases sl j t e2 with ⟨rfl, rfl⟩ | rfl | ⟨u, k, rfl, hu, rfl⟩ <;> first | (cases o2; done) | skip
    exact absurd rfl hij
  · rcases sl i _ e with ⟨_, h⟩ | h | ⟨u, j, _, _, h⟩ <;> cases h
  · rintro oa ρ ρd N1 M1 S l ⟨ks, us', h1, h2⟩
    have e := S.sl 0 _ h1
    have o := S.ob 0 _ _ _ h1
    obtain ⟨e1, e2, ds2, e3, e4, e5⟩ := e
    have : oa 0 = p := (Option.some.inj o).symm
    rw [this] at e3
    exact kq ks us' ds2 N1 M1 (fin S.toEn) e3 e4 e5 h2
  · exact fun oa x xd ρ ρd N1 M1 S l rx q => kx x xd N1 M1 (fin S.toEn) rx q
end
end VL
namespace VL
open PySem PySem.Spec L2 DL LW
def lk {α : Type} (d : α) : List (Nat × α) → Nat → α
  | [], _ => d
  | (k, v) :: r, g => bif Nat.beq k g then v else lk d r g
def lkS {α : Type} : List (Nat × Str × α) → Nat → Str → Option α
  | [], _, _ => none
  | (k, f, v) :: r, g, x => bif Nat.beq k g && (f == x) then some v else lkS r g x
def VM.of (gs : List (Nat × VG)) (fl : List (Nat × Str × Unit)) (sb : List (Nat × Nat × Bool)) (xf : List (Nat × Str × Unit)) (ms : List (Nat × Str × (Nat × VSp × List U))) (ps : List (Nat × Str × VSp)) (ii : List (Sum String Nat × Nat × Bool)) (ff : List (Sum String Nat × Nat)) : VM where
  gv := lk .no gs
  fld := fun g f => (lkS fl g f).isSome
  sub := fun g h => (sb.find? fun p => Nat.beq p.1 g && Nat.beq p.2.1 h).map (·.2.2)
  xfl := fun g f => (lkS xf g f).isSome
  mt := lkS ms
  pr := lkS ps
  isi := fun t g => (ii.find? fun p => decide (p.1 = t) && Nat.beq p.2.1 g).map (·.2.2)
  nf := fun t g => ff.any fun p => decide (p.1 = t) && Nat.beq p.2 g
theorem lk_mem {α : Type} {d : α} : ∀ {l : List (Nat × α)} {g : Nat} {P : α → Prop}, (∀ p ∈ l, p.1 = g → P p.2) → P d → P (lk d l g)
  | [], g, P, _, h => h
  | (k, v) :: r, g, P, h, hd => by
    simp only [lk]
    cases e : Nat.beq k g with
    | true => exact h (k, v) List.mem_cons_self (Nat.eq_of_beq_eq_true e)
    | false => exact lk_mem (fun p hp => h p (List.mem_cons_of_mem _ hp)) hd
theorem lkS_mem {α : Type} : ∀ {l : List (Nat × Str × α)} {g : Nat} {x : Str} {v : α}, lkS l g x = some v → (g, x, v) ∈ l
  | [], g, x, v, h => by cases h
  | (k, f, w) :: r, g, x, v, h => by
    simp only [lkS] at h
    cases e : (Nat.beq k g && (f == x)) with
    | true =>
      rw [e] at h
      simp only [Bool.and_eq_true, beq_iff_eq] at e
      obtain ⟨e1, e2⟩ := e
      cases h
      rw [Nat.eq_of_beq_eq_true e1, e2]
      exact List.mem_cons_self
    | false => rw [e] at h; exact List.mem_cons_of_mem _ (lkS_mem h)
structure TbOk (cl : Nat → Addr) (Γ : Gm) (gs : List (Nat × VG)) (fl : List (Nat × Str × Unit)) (sb : List (Nat × Nat × Bool)) (xf : List (Nat × Str × Unit)) (ms : List (Nat × Str × (Nat × VSp × List U))) (ps : List (Nat × Str × VSp)) (ii : List (Sum String Nat × Nat × Bool)) (ff : List (Sum String Nat × Nat)) : Prop where
  gs : ∀ p ∈ gs, VGok cl p.1 (Γ.gv p.1) p.2
  fl : ∀ p ∈ fl, Γ.fld (cl p.1) p.2.1
  sb : ∀ p ∈ sb, Γ.sub (cl p.1) (cl p.2.1) = some p.2.2
  xf : ∀ p ∈ xf, Γ.xfl (cl p.1) p.2.1
  ms : ∀ p ∈ ms, ∃ sp' dfl', Γ.mt p.1 p.2.1 = some (p.2.2.1, sp', dfl') ∧ (∀ P N, RUs P N p.2.2.2.2 dfl') ∧ ∀ ds M E Q, LSp cl p.2.2.2.1 ds M E Q → sp' ds M E Q
  ps : ∀ p ∈ ps, ∃ sp', Γ.pr p.1 p.2.1 = some sp' ∧ ∀ ds M E Q, LSp cl p.2.2 ds M E Q → sp' ds M E Q
  ii : ∀ p ∈ ii, Γ.isi (tyC cl p.1) (cl p.2.1) = some p.2.2
  ff : ∀ p ∈ ff, Γ.nf (tyC cl p.1) (cl p.2) = true
theorem TbOk.rel {cl : Nat → Addr} {Γ : Gm} {gs : List (Nat × VG)} {fl : List (Nat × Str × Unit)} {sb : List (Nat × Nat × Bool)} {xf : List (Nat × Str × Unit)} {ms : List (Nat × Str × (Nat × VSp × List U))} {ps : List (Nat × Str × VSp)} {ii : List (Sum String Nat × Nat × Bool)} {ff : List (Sum String Nat × Nat)}
    (T : TbOk cl Γ gs fl sb xf ms ps ii ff) : VRel cl Γ (VM.of gs fl sb xf ms ps ii ff) where
  gv := fun g => lk_mem (P := fun v => VGok cl g (Γ.gv g) v) (fun p hp e => by have := T.gs p hp; rw [e] at this; exact this) (by cases Γ.gv g <;> trivial)
  fld := fun g f h => by
    have h : (lkS fl g f).isSome = true := h
    cases e : lkS fl g f with
    | none => rw [e] at h; cases h
    | some v => exact T.fl _ (lkS_mem e)
  sub := fun g g' b h => by
    have h : (sb.find? fun p => Nat.beq p.1 g && Nat.beq p.2.1 g').map (·.2.2) = some b := h
    cases e : sb.find? fun p => Nat.beq p.1 g && Nat.beq p.2.1 g' with
    | none => rw [e] at h; cases h
    | some p =>
      rw [e] at h
      cases h
      have q := List.find?_some e
      simp only [Bool.and_eq_true] at q
      have := T.sb p (List.mem_of_find?_eq_some e)
      rw [Nat.eq_of_beq_eq_true q.1, Nat.eq_of_beq_eq_true q.2] at this
      exact this
  xfl := fun g f h => by
    have h : (lkS xf g f).isSome = true := h
    cases e : lkS xf g f with
    | none => rw [e] at h; cases h
    | some v => exact T.xf _ (lkS_mem e)
  kwc := fun g n ks pat h => by cases h
  mt := fun g m n sp dfl h => T.ms _ (lkS_mem (show lkS ms g m = some (n, sp, dfl) from h))
  pr := fun g f sp h => T.ps _ (lkS_mem (show lkS ps g f = some sp from h))
  isi := fun t g b h => by
    have h : (ii.find? fun p => decide (p.1 = t) && Nat.beq p.2.1 g).map (·.2.2) = some b := h
    cases e : ii.find? fun p => decide (p.1 = t) && Nat.beq p.2.1 g with
    | none => rw [e] at h; cases h
    | some p =>
      rw [e] at h
      cases h
      have q := List.find?_some e
      simp only [Bool.and_eq_true, decide_eq_true_eq] at q
      have := T.ii p (List.mem_of_find?_eq_some e)
      rw [q.1, Nat.eq_of_beq_eq_true q.2] at this
      exact this
  nf := fun t g h => by
    have h : (ff.any fun p => decide (p.1 = t) && Nat.beq p.2 g) = true := h
    obtain ⟨p, hp, q⟩ := List.any_eq_true.mp h
    simp only [Bool.and_eq_true, decide_eq_true_eq] at q
    have := T.ff p hp
    rw [q.1, Nat.eq_of_beq_eq_true q.2] at this
    exact this
theorem all_nil {α : Type} {P : α → Prop} : ∀ p ∈ ([] : List α), P p := fun _ h => by cases h
theorem all_cons {α : Type} {P : α → Prop} {a : α} {l : List α} (h : P a) (t : ∀ p ∈ l, P p) : ∀ p ∈ a :: l, P p := fun p hp => by
  rcases List.mem_cons.mp hp with rfl | hp
  · exact h
  · exact t p hp
abbrev VM.fns (gs : List (Nat × VG)) : VM := VM.of gs [] [] [] [] [] [] []
theorem fns_rel {cl : Nat → Addr} {Γ : Gm} {gs : List (Nat × VG)} (h : ∀ p ∈ gs, VGok cl p.1 (Γ.gv p.1) p.2) : VRel cl Γ (VM.fns gs) := TbOk.rel ⟨h, all_nil, all_nil, all_nil, all_nil, all_nil, all_nil, all_nil⟩
def ru (p : Int × Int) : U := .tup [.int p.1, .int p.2]
section
variable {P : Pl} {N M : Mm}
theorem ru_rep {p : Int × Int} {d : D} (r : RU P N (ru p) d) : d = rt p := by
  cases r with
  | tup r =>
    obtain ⟨a, b, rfl, h1, h2⟩ := r.two
    cases h1; cases h2
    rfl
theorem rep_ru (p : Int × Int) : RU P N (ru p) (rt p) := .tup (.cons (.int _) (.cons (.int _) .nil))
end
end VL
namespace LW
open PySem PySem.Spec L2 DL
def Cmp (M : Mm) (d : D) : Prop := Tyd M d ∧ ∀ x y, d = .tup [x, y] → Tyd M x ∧ Tyd M y
def ratO (d : D) : Option (Int × Int) := match d with
  | .tup [.int a, .int b] => if ratP (.tup [.int a, .int b]) = true then some (a, b) else none
  | _ => none
theorem ratP_inv {d : D} (h : ratP d = true) : ∃ p, d = rt p ∧ Red p := by
  match d, h with
  | .tup [x, y], h =>
    simp only [ratP, Bool.and_eq_true] at h
    obtain ⟨h1, h2, h3⟩ := h
    obtain ⟨a, rfl⟩ := wh_int h1
    obtain ⟨b, rfl⟩ := wh_int h2
    refine ⟨(a, b), rfl, ?_, ?_⟩
    · have : decide ((1 : Int) ≤ b) = true := by simpa [whP] using h2
      have := of_decide_eq_true this
      show (0 : Int) < b
      omega
    · have z := of_decide_eq_true h3
      show Nat.gcd a.natAbs b.natAbs = 1
      omega
theorem ratO_some {d : D} {p : Int × Int} (h : ratO d = some p) : d = rt p ∧ Red p := by
  unfold ratO at h
  split at h
  · rename_i a b
    split at h
    · rename_i e
      cases h
      obtain ⟨p, e1, r⟩ := ratP_inv e
      cases e1
      exact ⟨rfl, r⟩
    · cases h
  · cases h
theorem ratO_red {p : Int × Int} (r : Red p) : ratO (rt p) = some p := by
  have e : ratP (rt p) = true := by
    simp only [ratP, whP, gcd1, Bool.and_eq_true, decide_eq_true_eq, Bool.true_and, Bool.and_true]
    have := r.1; have := r.2
    exact ⟨by omega, by omega⟩
  show (if ratP (rt p) = true then some (p.1, p.2) else none) = _
  rw [if_pos e]
theorem ratO_none {d : D} (h : ratO d = none) : ratP d = false := by
  cases e : ratP d with
  | false => rfl
  | true =>
    obtain ⟨p, rfl, r⟩ := ratP_inv e
    rw [ratO_red r] at h
    cases h
theorem ratO_P (d : D) : ratP d = (ratO d).isSome := by
  cases e : ratO d with
  | none => rw [ratO_none e]; rfl
  | some p =>
    obtain ⟨rfl, r⟩ := ratO_some e
    cases h : ratP (rt p) with
    | true => rfl
    | false =>
      have : ratO (rt p) = none := by
        show (if ratP (rt p) = true then some (p.1, p.2) else none) = none
        rw [h]; rfl
      rw [this] at e; cases e
end LW
namespace LW
open PySem PySem.Spec L2 DL
abbrev RR := (Int × Int) × (Int × Int)
theorem mulP_sz {p q : Int × Int} {n m : Nat} (hp : Sz n p) (hq : Sz m q) : Sz (n + m) (mulP p q) := by
  have hd := den_mul hp.2.2 hq.2.2
  obtain ⟨l1, l2⟩ := lowP_le (a := p.1 * q.1) hd
  have a1 := lt_mul hp.1 hq.1
  have a2 := lt_mul hp.2.1 hq.2.1
  exact ⟨Nat.lt_of_le_of_lt l1 a1, Nat.lt_of_le_of_lt l2 a2, (mulP_red hp.2.2 hq.2.2).1⟩
theorem call1' {Γ : Gm} {g : Nat} {sp : DSp} {d : D} {M : Mm} {E : EK} {Q : QD} (hΓ : Γ.gv g = .fn 1 sp []) (h : sp [d] M E Q) : callD (Γ.gv g) 1 [d] M E Q := by
  rw [hΓ]
  exact ⟨Nat.le_refl _, Nat.le_refl _, rfl, h⟩
end LW
namespace VL
open PySem PySem.Spec L2 DL LW
def whU : U → U → U → Bool
  | .int i, l, h => (match l with | .int j => decide (j ≤ i) | _ => true) && (match h with | .int j => decide (i ≤ j) | _ => true)
  | _, _, _ => false
def tdU (u : U) : Bool := u.ty0.isSome
def niU (u : U) : Bool := tdU u && (match u with | .tup us => us.all tdU | _ => true)
def ratU : U → Option (Int × Int)
  | .tup [.int a, .int b] => if 1 ≤ b ∧ Nat.gcd a.natAbs b.natAbs = 1 then some (a, b) else none
  | _ => none
def btU (u : U) (l : Int × Int) (h : Option (Int × Int)) : Bool := match ratU u with
  | none => false
  | some p => !decide (cmpP p l < 0) && (match h with | none => true | some q => decide (cmpP p q ≤ 0))
def vsp_isratio : VSp := fun us _ Q => ∃ u, us = [u] ∧ niU u = true ∧ Q (.bl (ratU u).isSome)
def vsp_two (f : Int × Int → Int × Int → U) : VSp := fun us _ Q => ∃ p q, us = [ru p, ru q] ∧ Sz 3000 p ∧ Sz 3000 q ∧ Q (f p q)
def vsp_least : VSp := fun us _ Q => ∃ u p ps, us = [u] ∧ seqU u = some ((p :: ps).map ru) ∧ (∀ q ∈ p :: ps, Sz 3000 q) ∧ Q (ru ((p :: ps).foldl stepL p))
def vsp_draw : VSp := fun us _ Q => ∃ k : Int, us = [.hand, .int k] ∧ 0 < k ∧ k.natAbs.log2 < 9000 ∧ ∀ v : Int, 0 ≤ v → v < k → Q (.int v)
abbrev ve_isratio : VG := .fn 1 vsp_isratio []
abbrev ve_plus : VG := .fn 2 (vsp_two fun p q => ru (sumP p q)) []
abbrev ve_times : VG := .fn 2 (vsp_two fun p q => ru (mulP p q)) []
abbrev ve_least : VG := .fn 1 vsp_least []
abbrev ve_draw : VG := .fn 2 vsp_draw []
section
variable {P : Pl} {N M : Mm}
theorem td_rep (l : N.le M) {u : U} {d : D} (r : RU P N u d) (h : tdU u = true) : Tyd M d := by
  unfold tdU at h
  cases e : u.ty0 with
  | none => rw [e] at h; cases h
  | some t => exact ⟨t, ty_rep l r e⟩
theorem rat_rep {u : U} {d : D} (r : RU P N u d) : ratO d = ratU u := by
  have key : ∀ {d : D} {u : U}, (∀ a b, d ≠ .tup [.int a, .int b]) → (∀ a b, u ≠ .tup [.int a, .int b]) → ratO d = ratU u := fun {d u} h1 h2 => by
    unfold ratO ratU
    split
    · exact absurd rfl (h1 _ _)
    · split
      · exact absurd rfl (h2 _ _)
      · rfl
  by_cases c : ∃ a b, u = .tup [.int a, .int b]
  · obtain ⟨a, b, rfl⟩ := c
    cases ru_rep (p := (a, b)) r
    show (if ratP (.tup [.int a, .int b]) = true then some (a, b) else none) = (if 1 ≤ b ∧ Nat.gcd a.natAbs b.natAbs = 1 then some (a, b) else none)
    have : ratP (.tup [.int a, .int b]) = decide (1 ≤ b ∧ Nat.gcd a.natAbs b.natAbs = 1) := by
      simp only [ratP, whP, gcd1, Bool.true_and, Bool.and_true]
      rw [Bool.decide_and]
      congr 1
      by_cases z : Nat.gcd a.natAbs b.natAbs = 1
      · rw [decide_eq_true z, decide_eq_true (by omega)]
      · rw [decide_eq_false z, decide_eq_false (by omega)]
    rw [this]
    by_cases z : 1 ≤ b ∧ Nat.gcd a.natAbs b.natAbs = 1
    · rw [decide_eq_true z, if_pos rfl, if_pos z]
    · rw [decide_eq_false z, if_neg Bool.false_ne_true, if_neg z]
  · refine key (fun a b e => c ⟨a, b, ?_⟩) (fun a b e => c ⟨a, b, e⟩)
    subst e
    cases r with
    | tup r =>
      cases r with
      | cons r1 r => cases r with
        | cons r2 r => cases r; cases r1; cases r2; rfl
theorem cmp_of (l : N.le M) {u : U} {d : D} (r : RU P N u d) (h : niU u = true) : Cmp M d := by
  unfold niU at h
  rw [Bool.and_eq_true] at h
  refine ⟨td_rep l r h.1, fun x y e => ?_⟩
  subst e
  cases r with
  | tup r =>
    cases r with
    | cons r1 r => cases r with
      | cons r2 r =>
        cases r
        have h2 := h.2
        simp only [List.all_cons, List.all_nil, Bool.and_true, Bool.and_eq_true] at h2
        exact ⟨td_rep l r1 h2.1, td_rep l r2 h2.2⟩
end
section
variable {cl : Nat → Addr}
theorem br_isratio : ∀ ds M E Q, LSp cl vsp_isratio ds M E Q → sp_is_ratio ds M E Q := by
  rintro ds M E Q ⟨hd, us, N, Eu, Qu, w, r, ⟨u, rfl, h1, q⟩, kq, kx⟩
  obtain ⟨a, rfl, r1⟩ := r.one
  have c := cmp_of w.le r1 h1
  exact ⟨a, rfl, c.1, c.2, by rw [ratO_P, rat_rep r1]; exact kq.here w (.bl _) q⟩
theorem br_two {f : Int × Int → Int × Int → U} {g : Int × Int → Int × Int → D} (hfg : ∀ P N p q, RU P N (f p q) (g p q)) : ∀ ds M E Q, LSp cl (vsp_two f) ds M E Q → ∃ p q : Int × Int, ds = [rt p, rt q] ∧ Sz 3000 p ∧ Sz 3000 q ∧ Q (g p q) M := by
  rintro ds M E Q ⟨hd, us, N, Eu, Qu, w, r, ⟨p, q, rfl, h1, h2, hq⟩, kq, kx⟩
  obtain ⟨a, b, rfl, r1, r2⟩ := r.two
  cases ru_rep r1; cases ru_rep r2
  exact ⟨p, q, rfl, h1, h2, kq.here w (hfg _ _ _ _) hq⟩
theorem HandAt.ok {M : Mm} {q : Hc} (h : HandAt M q) : HandOk M q.h := by
  obtain ⟨i, r, t, cells, h⟩ := h
  exact ⟨q.c, i, r, t, cells, h⟩
theorem HandAt.next {M M' : Mm} {q : Hc} (h : HandAt M q) (k : HandOk M' q.h) (l : leX q.h M M') : HandAt M' q := by
  obtain ⟨i, r, t, cells, h1, h2, h3, h4⟩ := h
  obtain ⟨c, i', r', t', cells', k1, k2, k3, k4⟩ := k
  obtain ⟨ys, e⟩ := l.2 _ _ h1
  rw [k1] at e
  cases e
  exact ⟨i', r', t', cells', k1, k2, k3, k4⟩
theorem br_draw : ∀ ds M E Q, LSp cl vsp_draw ds M E Q → sp_law_draw ds M E Q := by
  rintro ds M E Q ⟨hd, us, N, Eu, Qu, w, r, ⟨k, rfl, h1, h2, q⟩, kq, kx⟩
  obtain ⟨a, b, rfl, r1, r2⟩ := r.two
  cases r2
  cases r1 with
  | @hand hc e =>
    have e : hd = some hc := e
    subst e
    have H := w.w hc rfl
    refine ⟨hc.h, k, rfl, H.ok, h1, h2, fun v M' v0 v1 H' l => ?_⟩
    have le : N.le M' := fun a o e => by
      have : a ≠ hc.h := fun z => by rw [z, (w.nh hc rfl).1] at e; cases e
      exact l.1 a o this (w.le _ _ e)
    exact kq (.int v) (.int v) N M' ⟨Mm.le_refl _, fun a o h e => l.1 a o (h hc rfl) e, fun _ h _ => h, le, fun q e => by cases e; exact H.next H' l, w.nh⟩ (.int v) (q v v0 v1)
variable {g : Nat}
theorem gk_isratio : VGok cl g (.fn 1 sp_is_ratio []) ve_isratio := ⟨rfl, fun _ _ => .nil, br_isratio⟩
theorem gk_plus : VGok cl g (.fn 2 sp_plus []) ve_plus := ⟨rfl, fun _ _ => .nil, br_two fun _ _ _ _ => rep_ru _⟩
theorem gk_times : VGok cl g (.fn 2 sp_times []) ve_times := ⟨rfl, fun _ _ => .nil, br_two fun _ _ _ _ => rep_ru _⟩
theorem gk_draw : VGok cl g (.fn 2 sp_law_draw []) ve_draw := ⟨rfl, fun _ _ => .nil, br_draw⟩
end
end VL
namespace VL
open PySem PySem.Spec L2 DL LW
section
variable {E : EU} {Q : QU}
theorem cV_isratio {u : U} (t : niU u = true) (q : Q (.bl (ratU u).isSome)) : callV ve_isratio 1 [u] E Q := ⟨by decide, by decide, rfl, _, rfl, t, q⟩
theorem cV_plus {x y : Int × Int} (h1 : Sz 3000 x) (h2 : Sz 3000 y) (q : Q (ru (sumP x y))) : callV ve_plus 2 [ru x, ru y] E Q := ⟨by decide, by decide, rfl, x, y, rfl, h1, h2, q⟩
theorem cV_times {x y : Int × Int} (h1 : Sz 3000 x) (h2 : Sz 3000 y) (q : Q (ru (mulP x y))) : callV ve_times 2 [ru x, ru y] E Q := ⟨by decide, by decide, rfl, x, y, rfl, h1, h2, q⟩
theorem cV_least2 {x y : Int × Int} (h1 : Sz 3000 x) (h2 : Sz 3000 y) (q : Q (ru ([x, y].foldl stepL x))) : callV ve_least 1 [.lst [ru x, ru y]] E Q := ⟨by decide, by decide, rfl, _, x, [y], rfl, rfl, fun z hz => by
  simp only [List.mem_cons, List.not_mem_nil, or_false] at hz
  rcases hz with rfl | rfl
  · exact h1
  · exact h2, q⟩
theorem cV_draw {k : Int} (h1 : 0 < k) (h2 : k.natAbs < 2 ^ 64) (q : ∀ v : Int, 0 ≤ v → v < k → Q (.int v)) : callV ve_draw 2 [.hand, .int k] E Q := ⟨by decide, by decide, rfl, k, rfl, h1, Nat.lt_trans (log2_lt (n := 64) h2 (by decide)) (by decide), q⟩
end
theorem rat_ru {p : Int × Int} (h : Red p) : ratU (ru p) = some p := by
  show (if 1 ≤ p.2 ∧ Nat.gcd p.1.natAbs p.2.natAbs = 1 then some (p.1, p.2) else none) = _
  have := h.1
  rw [if_pos ⟨by omega, h.2⟩]
def zz : Int × Int := (0, 1)
structure HoldR where
  a : Int
  b : Int
  br : Int
  sh : Int × Int
  dk : Int × Int
def uh (h : HoldR) : U := .tup [.int h.a, .int h.b, .int h.br, ru h.sh, ru h.dk]
def Szr (p : Int × Int) : Prop := Red p ∧ Sz 200 p
structure HoldOk (h : HoldR) : Prop where
  a0 : -1000 ≤ h.a
  b1 : h.b ≤ 1000
  ab : h.a < h.b
  r0 : 1 ≤ h.br
  r1 : h.br ≤ 20
  sh : Szr h.sh
  s0 : 0 ≤ h.sh.1
  s1 : h.sh.1 ≤ h.sh.2
  dk : Szr h.dk
  d0 : 0 < h.dk.1
abbrev ve_w : VG := .err ["what"] [0]
theorem rai_w {V : VM} {g : Nat} {w : Str} {Q : Xu → Prop} (h : V.gv g = ve_w) (hw : w.length ≤ 1000) (q : Q ⟨g, ["what"], [.str w]⟩) : raiV V g [.str w] Q := by
  unfold raiV
  rw [h]
  refine ⟨List.cons_ne_nil _ _, rfl, fun j hj => ?_, q⟩
  simp only [List.mem_cons, List.not_mem_nil, or_false] at hj
  subst hj
  exact ⟨_, rfl, hw⟩
theorem vFor_inv {tg : Tg} {b : TSv} {K : KV} (I : List U → EnS → Prop)
    (hs : ∀ u us ρ, I (u :: us) ρ → ∃ bs, bnd tg u = some bs ∧ ∀ nx ct bk, (∀ ρ', I us ρ' → nx ρ') → (∀ ρ', I us ρ' → ct ρ') → b (setSl ρ bs) { K with nx := nx, ct := ct, bk := bk }) (hn : ∀ ρ, I [] ρ → K.nx ρ) : ∀ us ρ, I us ρ → vFor tg b K us ρ
  | [], ρ, h => hn ρ h
  | u :: us, ρ, h => by
    obtain ⟨bs, h1, h2⟩ := hs u us ρ h
    exact ⟨bs, h1, h2 _ _ _ (fun ρ' h' => vFor_inv I hs hn us ρ' h') (fun ρ' h' => vFor_inv I hs hn us ρ' h')⟩
def Joined : List HoldR → Prop
  | [] => True
  | [_] => True
  | h :: k :: r => h.b = k.a ∧ Joined (k :: r)
def HoldsOk (hs : List HoldR) : Prop := (∀ h ∈ hs, HoldOk h) ∧ Joined hs ∧ 1 ≤ hs.length ∧ hs.length ≤ 100
theorem eq_int (i j : Int) : eqU (.int i) (.int j) = some (decide (i = j)) := by
  show some (PyData.eqv (.int i) (.int j)) = _
  rw [eqv_int]
end VL
set_option exponentiation.threshold 4000
namespace VL
open PySem PySem.Spec L2 DL LW
def leastD (h k : HoldR) : Int × Int := [h.dk, k.dk].foldl stepL h.dk
def badTop : Nat → List HoldR → List U → Option Nat
  | k, h :: h2 :: r, t :: ts => if btU t zz (some (leastD h h2)) = true then badTop (k + 1) (h2 :: r) ts else some k
  | _, _, _ => none
def um (m : (Int × Int) × (Int × Int)) : U := .tup [ru m.1, ru m.2]
def MarkOk (a b : Int) (m : (Int × Int) × (Int × Int)) : Prop := Szr m.1 ∧ Szr m.2 ∧ a * m.1.2 ≤ m.1.1 ∧ m.1.1 ≤ b * m.1.2 ∧ 0 ≤ m.2.1
end VL
set_option exponentiation.threshold 4000
namespace VL
open PySem PySem.Spec L2 DL LW
abbrev Rt := Int × Int
def ud (d : Int × Rt) : U := .tup [.int d.1, ru d.2]
def badDoor (ts : List Rt) : Nat → List (Int × Rt) → Option Nat
  | _, [] => none
  | k, d :: r => if cmpP d.2 (ts.getD d.1.toNat zz) < 0 then badDoor ts (k + 1) r else some k
def DoorOk (n : Nat) (d : Int × Rt) : Prop := 0 ≤ d.1 ∧ d.1 < n ∧ Szr d.2 ∧ 0 ≤ d.2.1
def up (p : Int × Rt × Rt) : U := .tup [.int p.1, ru p.2.1, ru p.2.2]
def PortIn (h : HoldR) (p : Int × Rt × Rt) : Prop := Szr p.2.1 ∧ h.a * p.2.1.2 ≤ p.2.1.1 ∧ p.2.1.1 ≤ h.b * p.2.1.2 ∧ Szr p.2.2 ∧ 0 ≤ p.2.2.1 ∧ p.2.2.1 * h.dk.2 ≤ h.dk.1 * p.2.2.2
def PortOk (hs : List HoldR) (p : Int × Rt × Rt) : Prop := 0 ≤ p.1 ∧ ∃ h, hs[p.1.toNat]? = some h ∧ PortIn h p
structure ShipR where
  hs : List HoldR
  ts : List Rt
  ms : List (Rt × Rt)
  ow : Rt
  om : Rt
  ds : List (Int × Rt)
  ps : List (Int × Rt × Rt)
  sl : Rt
def shipKs : List Str := ["holds", "tops", "marks", "own", "doors", "ports", "slack"]
def ShipR.fs (s : ShipR) : List U := [.tup (s.hs.map uh), .tup (s.ts.map ru), .tup (s.ms.map um), .tup [ru s.ow, ru s.om], .tup (s.ds.map ud), .tup (s.ps.map up), ru s.sl]
def ShipR.u (s : ShipR) : U := .obj 75 shipKs s.fs
structure Half (s : ShipR) : Prop where
  hs : HoldsOk s.hs
  ms : ∃ f l, s.hs.head? = some f ∧ s.hs.getLast? = some l ∧ ∀ m ∈ s.ms, MarkOk f.a l.b m
  m1 : 1 ≤ s.ms.length
  m4 : s.ms.length ≤ 4
  ow : Szr s.ow
  w0 : 0 ≤ s.ow.1
  om : Szr s.om
  tl : s.ts.length + 1 = s.hs.length
  tz : ∀ t ∈ s.ts, Szr t
  d6 : s.ds.length ≤ 6
  ds : ∀ d ∈ s.ds, DoorOk s.ts.length d
  p4 : s.ps.length ≤ 4
  ps : ∀ p ∈ s.ps, PortOk s.hs p
  sl : Szr s.sl
  s0 : 0 ≤ s.sl.1
theorem cV1 {n : Nat} {sp : VSp} {dfl : List U} {us : List U} {E : EU} {Q : QU} (hl : us.length = n) (h : sp us E Q) : callV (.fn n sp dfl) n us E Q := by
  refine ⟨Nat.le_refl _, by omega, hl, ?_⟩
  rw [Nat.sub_self, Nat.sub_zero, List.drop_length, List.append_nil]
  exact h
end VL
set_option exponentiation.threshold 4000
namespace VL
open PySem PySem.Spec L2 DL LW
structure Good (s : ShipR) : Prop where
  h : Half s
  l6 : s.hs.length ≤ 6
  bt : badTop 0 s.hs (s.ts.map ru) = none
  bd : badDoor s.ts 0 s.ds = none
def behind (i place : Int) (p : Int × Rt × Rt) : Int × Rt × Rt := if i < p.1 ∨ (p.1 = i ∧ 0 < cmpP p.2.1 (place, 1)) then (p.1 + 1, p.2) else p
end VL
set_option exponentiation.threshold 4000
namespace VL
open PySem PySem.Spec L2 DL LW
def xW (g : Nat) (w : Str) : Xu := ⟨g, ["what"], [.str w]⟩
theorem small {n : Nat} (h : n ≤ 100000) : n ≤ sizeLine := by
  have : 100000 ≤ sizeLine := by rw [sizeLine_eq]; decide
  omega
end VL
set_option exponentiation.threshold 4000
namespace VL
open PySem PySem.Spec L2 DL LW
theorem eqv_all_refl : ∀ {ps : List PyData}, (∀ p ∈ ps, PyData.eqv p p = true) → PyData.eqvAll ps ps = true
  | [], _ => by simp [PyData.eqvAll]
  | p :: ps, h => by
    have := eqv_all_refl (ps := ps) fun q hq => h q (List.mem_cons_of_mem _ hq)
    simp [PyData.eqvAll, h p List.mem_cons_self, this]
theorem pys_mem {f : U → Option PyData} : ∀ {us : List U} {ps : List PyData}, uPys f us = some ps → ∀ p ∈ ps, ∃ u ∈ us, f u = some p
  | [], ps, h, p, hp => by cases h; cases hp
  | u :: us, ps, h, p, hp => by
    simp only [uPys] at h
    cases e1 : f u with
    | none => rw [e1] at h; cases h
    | some q =>
      cases e2 : uPys f us with
      | none => rw [e1, e2] at h; cases h
      | some qs =>
        rw [e1, e2] at h
        cases h
        rcases List.mem_cons.mp hp with rfl | hp
        · exact ⟨u, List.mem_cons_self, e1⟩
        · obtain ⟨v, h1, h2⟩ := pys_mem e2 p hp
          exact ⟨v, List.mem_cons_of_mem _ h1, h2⟩
theorem eqv_refl : ∀ (n : Nat) (u : U) (p : PyData), uPy n u = some p → PyData.eqv p p = true
  | 0, _, _, h => by cases h
  | n + 1, u, p, h => by
    cases u <;> simp only [uPy] at h <;> try (cases h; done)
    · cases h; simp [PyData.eqv]
    · cases h; simp [PyData.eqv]
    · cases h; simp [PyData.eqv]
    · split at h
      · cases h; simp [PyData.eqv]
      · cases h
    · split at h
      · rename_i ps e
        cases h
        have := eqv_all_refl (ps := ps) fun q hq => by
          obtain ⟨v, _, hv⟩ := pys_mem e q hq
          exact eqv_refl n v q hv
        simp [PyData.eqv, this]
      · cases h
    · split at h
      · rename_i ps e
        cases h
        have := eqv_all_refl (ps := ps) fun q hq => by
          obtain ⟨v, _, hv⟩ := pys_mem e q hq
          exact eqv_refl n v q hv
        simp [PyData.eqv, this]
      · cases h
end VL
set_option exponentiation.threshold 4000
namespace VL
open PySem PySem.Spec L2 DL LW
theorem mt1 {V : VM} {g n : Nat} {m : Str} {sp : VSp} {x : U} {us : List U} {E : EU} {Q : QU} (e : V.mt g m = some (n, sp, [])) (hl : us.length = n) (h : sp (x :: us) E Q) : mtV V g m x n us E Q := by
  unfold mtV
  rw [e]
  refine ⟨hl, ?_⟩
  rw [show ([] : List U).drop (([] : List U).length - (n - n)) = [] by rw [Nat.sub_self]; rfl, List.append_nil]
  exact h
end VL
set_option exponentiation.threshold 4000
namespace VL
open PySem PySem.Spec L2 DL LW
def Sm60 (p : Rt) : Prop := Red p ∧ Sz 60 p
def Dv (h : HoldR) : Prop := ∃ c, c * h.sh.2 = 12
theorem pick_at {us : List U} {v : Int} (v0 : 0 ≤ v) (v1 : v < us.length) : ∃ u, u ∈ us ∧ atI us v = some u := by
  have h : v.toNat < us.length := by omega
  exact ⟨us[v.toNat], List.getElem_mem h, atI_get (n := v.toNat) (by omega) (List.getElem?_eq_getElem h)⟩
abbrev nos14 : EnS := [.no, .no, .no, .no, .no, .no, .no, .no, .no, .no, .no, .no, .no, .no]
def eH (m L c e : Int) (hs : List HoldR) (x7 x8 x9 x10 : Sl) : EnS := [.fz .hand, .fz (.int 4), .fz (.int m), .fz (.int L), .fz (.int c), .fz (.int e), .ow (hs.map uh), x7, x8, x9, x10] ++ nos14
end VL
set_option exponentiation.threshold 4000
namespace VL
open PySem PySem.Spec L2 DL LW
def Smt (p : Rt) : Prop := Red p ∧ Sz 100 p
def TopOk (hs : List HoldR) (k : Nat) (t : Rt) : Prop := Smt t ∧ 0 ≤ t.1 ∧ ∀ h h2, hs[k]? = some h → hs[k + 1]? = some h2 → t.1 * h.dk.2 ≤ h.dk.1 * t.2 ∧ t.1 * h2.dk.2 ≤ h2.dk.1 * t.2
def TopsOk (hs : List HoldR) (ts : List Rt) : Prop := ∀ k t, ts[k]? = some t → TopOk hs k t
end VL
set_option exponentiation.threshold 4000
namespace VL
open PySem PySem.Spec L2 DL LW
theorem rng_turns {i n : Nat} {b : TSv} {K : KV} (I : Nat → EnS → Prop) (st : ∀ k, k < n → ∀ ρ, I k ρ → ∀ nx ct bk, (∀ ρ', I (k + 1) ρ' → nx ρ') → b (ρ.set i (.fz (.int k))) { K with nx := nx, ct := ct, bk := bk }) (dn : ∀ ρ, I n ρ → K.nx ρ) :
    ∀ (m k : Nat) (ρ : EnS), k + m = n → I k ρ → vFor (.nm i) b K ((List.range' k m).map fun j => U.int (0 + (j : Nat))) ρ
  | 0, k, ρ, e, h => dn ρ (by have : k = n := by omega
                              rw [← this]; exact h)
  | m + 1, k, ρ, e, h => by
    rw [List.range'_succ, List.map_cons]
    refine ⟨[(i, .int (0 + (k : Nat)))], rfl, ?_⟩
    rw [Int.zero_add]
    exact st k (by omega) ρ h _ _ _ fun ρ' h' => rng_turns I st dn m (k + 1) ρ' (by omega) h'
theorem rng_loop {i n : Nat} {b : TSv} {K : KV} (I : Nat → EnS → Prop) (st : ∀ k, k < n → ∀ ρ, I k ρ → ∀ nx ct bk, (∀ ρ', I (k + 1) ρ' → nx ρ') → b (ρ.set i (.fz (.int k))) { K with nx := nx, ct := ct, bk := bk }) (dn : ∀ ρ, I n ρ → K.nx ρ) {ρ : EnS} (h : I 0 ρ) : vFor (.nm i) b K (rngU 0 n) ρ := by
  unfold rngU
  rw [List.range_eq_range']
  exact rng_turns I st dn n 0 ρ (by omega) h
theorem sml_of {i : Int} (h1 : 0 ≤ i) (h2 : i ≤ 1000) : sml i := by
  unfold sml
  omega
end VL
set_option exponentiation.threshold 4000
namespace VL
open PySem PySem.Spec L2 DL LW
abbrev Mk := Rt × Rt
theorem red_one (a : Int) : Red (a, 1) := ⟨by show (0 : Int) < 1; decide, by show Nat.gcd a.natAbs 1 = 1; simp⟩
end VL
set_option exponentiation.threshold 4000
namespace VL
open PySem PySem.Spec L2 DL LW
abbrev Pt := Int × Rt × Rt
end VL
set_option exponentiation.threshold 4000
namespace VL
open PySem PySem.Spec L2 DL LW
structure Drawn (s : ShipR) : Prop where
  good : Good s
  two : 2 ≤ s.hs.length
  four : s.hs.length ≤ 4
  dz : ∀ h ∈ s.hs, Sm60 h.dk
  tops : TopsOk s.hs s.ts
  d1 : s.ds.length ≤ 1
  p1 : s.ps.length ≤ 1
  lo : ∀ h ∈ s.hs, -15 ≤ h.a
  hi : ∀ h ∈ s.hs, h.b ≤ 60
  dv : ∀ h ∈ s.hs, Dv h
  s1 : s.sl.2 = 1
  s2 : s.sl.1 ≤ 1125899906842624
end VL
set_option exponentiation.threshold 4000
namespace VL
open PySem PySem.Spec L2 DL LW
theorem bits_log4 {z : Int} (h : Builtin.Int.intBits z ≤ 1048576) : z.natAbs.log2 < 2000000 := by
  unfold Builtin.Int.intBits at h
  by_cases c : z = 0
  · subst c; decide
  · rw [if_neg (by simpa using c)] at h
    omega
end VL
namespace VL
open PySem PySem.Spec L2 DL LW
section
variable {cl : Nat → Addr} {g : Nat}
theorem gk_own {n : Nat} {sp : VSp} : VGok cl g (.fn n (LSp cl sp) []) (.fn n sp []) := ⟨rfl, fun _ _ => .nil, fun _ _ _ _ h => h⟩
theorem gk_err {C : Addr} {fs : List Str} {tx : List Nat} (h : C = cl g) : VGok cl g (.err C fs tx) (.err fs tx) := ⟨h, rfl, rfl⟩
theorem gk_cls {C : Addr} (h : C = cl g) : VGok cl g (.cls C) .cls := h
theorem mt_own {Γ : Gm} {m : Str} {n : Nat} {sp : VSp} (h : Γ.mt g m = some (n, LSp cl sp, [])) : ∃ sp' dfl', Γ.mt g m = some (n, sp', dfl') ∧ (∀ P N, RUs P N ([] : List U) dfl') ∧ ∀ ds M E Q, LSp cl sp ds M E Q → sp' ds M E Q := ⟨_, _, h, fun _ _ => .nil, fun _ _ _ _ h => h⟩
end
end VL
namespace VW
open PySem PySem.Spec L2 DL LW VL
def tlS : Sms → Sms
  | .cons _ r => r
  | .nil => .nil
def fzm : EnS → Option EnU
  | [] => some []
  | .fz u :: r => (fzm r).map (some u :: ·)
  | .no :: r => (fzm r).map (none :: ·)
  | _ :: _ => none
theorem fzm_see {m : Nat → Bool} {o : Bool} : ∀ {ρ : EnS} {ρ' : EnU} (k : Nat), fzm ρ = some ρ' → seeF o m k ρ = ρ'
  | [], ρ', k, h => by cases h; rfl
  | .fz u :: r, ρ', k, h => by
    obtain ⟨w, h1, rfl⟩ := Option.map_eq_some_iff.mp (show (fzm r).map (some u :: ·) = some ρ' from h)
    show (Sl.fz u).see o (m k) :: seeF o m (k + 1) r = _
    rw [fzm_see (k + 1) h1]; rfl
  | .no :: r, ρ', k, h => by
    obtain ⟨w, h1, rfl⟩ := Option.map_eq_some_iff.mp (show (fzm r).map (none :: ·) = some ρ' from h)
    show (Sl.no).see o (m k) :: seeF o m (k + 1) r = _
    rw [fzm_see (k + 1) h1]; rfl
  | .ow _ :: _, _, _, h => by cases h
  | .ob _ _ _ :: _, _, _, h => by cases h
theorem fzm_aft {m : Nat → Bool} {fl : Bool} : ∀ {ρ : EnS} {ρ' : EnU} (k : Nat), fzm ρ = some ρ' → aftF m fl k ρ = ρ
  | [], ρ', k, h => rfl
  | .fz u :: r, ρ', k, h => by
    obtain ⟨w, h1, rfl⟩ := Option.map_eq_some_iff.mp (show (fzm r).map (some u :: ·) = some ρ' from h)
    show (bif m k then (Sl.fz u).thi (!fl) else Sl.fz u) :: aftF m fl (k + 1) r = _
    rw [fzm_aft (k + 1) h1]
    cases m k <;> rfl
  | .no :: r, ρ', k, h => by
    obtain ⟨w, h1, rfl⟩ := Option.map_eq_some_iff.mp (show (fzm r).map (none :: ·) = some ρ' from h)
    show (bif m k then (Sl.no).thi (!fl) else Sl.no) :: aftF m fl (k + 1) r = _
    rw [fzm_aft (k + 1) h1]
    cases m k <;> rfl
  | .ow _ :: _, _, _, h => by cases h
  | .ob _ _ _ :: _, _, _, h => by cases h
section
variable {V : VM} {e : Ex} {r : Sms} {ρ : EnS} {K : KV} {i : Nat}
theorem vs_ret (ρ' : EnU) (h : fzm ρ = some ρ') (q : vE V e ρ' (fun x => K.ex x (frz ρ)) K.rt) : vSs V (.cons (.ret e) r) ρ K := by
  show vE V e (seeF false (mE e) 0 ρ) (fun x => K.ex x (frz ρ)) K.rt
  rw [fzm_see 0 h]; exact q
theorem vs_set (ρ' : EnU) (h : fzm ρ = some ρ') (hf : exFresh e = false) (q : vE V e ρ' (fun x => K.ex x (frz ρ)) fun u => vSs V r (ρ.set i (.fz u)) K) : vSs V (.cons (.set i e) r) ρ K := by
  show vE V e (seeF false (mE e) 0 ρ) (fun x => K.ex x (frz ρ)) fun u => vSs V r ((aftF (mE e) (flF e u) 0 ρ).set i (slotF e u)) K
  rw [fzm_see 0 h]
  have e1 : ∀ u, (aftF (mE e) (flF e u) 0 ρ).set i (slotF e u) = ρ.set i (.fz u) := fun u => by
    rw [fzm_aft 0 h]
    unfold slotF
    rw [hf]; rfl
  simp only [e1]
  exact q
end
def lit : EnS → EnU
  | [] => []
  | .fz u :: r => some u :: lit r
  | _ :: r => none :: lit r
def litA : EnS → EnU
  | [] => []
  | .fz u :: r => some u :: litA r
  | .ow us :: r => some (.lst us) :: litA r
  | _ :: r => none :: litA r
def ofr (m : Nat → Bool) : Nat → EnS → Bool
  | _, [] => true
  | k, .ow _ :: r => !m k && ofr m (k + 1) r
  | _, .ob _ _ _ :: _ => false
  | k, _ :: r => ofr m (k + 1) r
def ofa (m : Nat → Bool) : Nat → EnS → Bool
  | _, [] => true
  | k, .ow _ :: r => m k && ofa m (k + 1) r
  | _, .ob _ _ _ :: _ => false
  | k, _ :: r => ofa m (k + 1) r
theorem see_lit {m : Nat → Bool} : ∀ {ρ : EnS} (k : Nat), ofr m k ρ = true → seeF false m k ρ = lit ρ
  | [], k, h => rfl
  | .fz u :: r, k, h => by
    show (Sl.fz u).see false (m k) :: seeF false m (k + 1) r = some u :: lit r
    rw [see_lit (k + 1) h]; rfl
  | .no :: r, k, h => by
    show (Sl.no).see false (m k) :: seeF false m (k + 1) r = none :: lit r
    rw [see_lit (k + 1) h]; rfl
  | .ow us :: r, k, h => by
    have h : (!m k && ofr m (k + 1) r) = true := h
    rw [Bool.and_eq_true] at h
    show (Sl.ow us).see false (m k) :: seeF false m (k + 1) r = none :: lit r
    rw [see_lit (k + 1) h.2, show m k = false by simpa using h.1]; rfl
  | .ob _ _ _ :: _, _, h => by cases h
theorem see_litA {m : Nat → Bool} : ∀ {ρ : EnS} (k : Nat), ofa m k ρ = true → seeF false m k ρ = litA ρ
  | [], k, h => rfl
  | .fz u :: r, k, h => by
    show (Sl.fz u).see false (m k) :: seeF false m (k + 1) r = some u :: litA r
    rw [see_litA (k + 1) h]; rfl
  | .no :: r, k, h => by
    show (Sl.no).see false (m k) :: seeF false m (k + 1) r = none :: litA r
    rw [see_litA (k + 1) h]; rfl
  | .ow us :: r, k, h => by
    have h : (m k && ofa m (k + 1) r) = true := h
    rw [Bool.and_eq_true] at h
    show (Sl.ow us).see false (m k) :: seeF false m (k + 1) r = some (.lst us) :: litA r
    rw [see_litA (k + 1) h.2, h.1]; rfl
  | .ob _ _ _ :: _, _, h => by cases h
theorem aft_lit {m : Nat → Bool} {fl : Bool} : ∀ {ρ : EnS} (k : Nat), ofr m k ρ = true → aftF m fl k ρ = ρ
  | [], k, h => rfl
  | .fz u :: r, k, h => by
    show (bif m k then (Sl.fz u).thi (!fl) else Sl.fz u) :: aftF m fl (k + 1) r = _
    rw [aft_lit (k + 1) h]
    cases m k <;> rfl
  | .no :: r, k, h => by
    show (bif m k then (Sl.no).thi (!fl) else Sl.no) :: aftF m fl (k + 1) r = _
    rw [aft_lit (k + 1) h]
    cases m k <;> rfl
  | .ow us :: r, k, h => by
    have h : (!m k && ofr m (k + 1) r) = true := h
    rw [Bool.and_eq_true] at h
    show (bif m k then (Sl.ow us).thi (!fl) else Sl.ow us) :: aftF m fl (k + 1) r = _
    rw [aft_lit (k + 1) h.2, show m k = false by simpa using h.1]; rfl
  | .ob _ _ _ :: _, _, h => by cases h
section
variable {V : VM} {e : Ex} {r : Sms} {ρ : EnS} {K : KV} {i : Nat}
theorem vl_lc {own : List Nat} {tg : Tg} {it : Si} {c : Teo} (ρ' : EnU) (h : ofr (mE (.lc own tg it c e)) 0 ρ = true) (hl : lit ρ = ρ') (hx : V.exn = none)
    (q : vI V it ρ' (fun x => K.ex x (frz ρ)) fun items => vComp (fun u K => ∃ bs, bnd tg u = some bs ∧ vC V c (setB (wipeU ρ' own) bs) EF fun b => if b = true then vE V e (setB (wipeU ρ' own) bs) EF (fun x => K (some x)) else K none) items [] fun acc => vSs V r (ρ.set i (.ow acc)) K) : vSs V (.cons (.setLc i own tg it c e) r) ρ K := by
  show V.exn = none ∧ vI V it (seeF false (mE (.lc own tg it c e)) 0 ρ) (fun x => K.ex x (frz ρ)) fun items =>
      vComp (fun u K => ∃ bs, bnd tg u = some bs ∧ vC V c (setB (wipeU (seeF false (mE (.lc own tg it c e)) 0 ρ) own) bs) EF fun b => if b = true then vE V e (setB (wipeU (seeF false (mE (.lc own tg it c e)) 0 ρ) own) bs) EF (fun x => K (some x)) else K none)
        items [] fun acc => vSs V r ((aftF (mE (.lc own tg it c e)) (flts acc) 0 ρ).set i (.ow acc)) K
  refine ⟨hx, ?_⟩
  rw [see_lit 0 h, hl]
  have e1 : ∀ b, aftF (mE (.lc own tg it c e)) b 0 ρ = ρ := fun b => aft_lit 0 h
  simp only [e1]
  exact q
theorem va_set (ρ' : EnU) (h : ofa (mE e) 0 ρ = true) (hl : litA ρ = ρ') (q : vE V e ρ' (fun x => K.ex x (frz ρ)) fun u => vSs V r ((aftF (mE e) (flF e u) 0 ρ).set i (slotF e u)) K) : vSs V (.cons (.set i e) r) ρ K := by
  show vE V e (seeF false (mE e) 0 ρ) (fun x => K.ex x (frz ρ)) fun u => vSs V r ((aftF (mE e) (flF e u) 0 ρ).set i (slotF e u)) K
  rw [see_litA 0 h, hl]; exact q
theorem va_ret (ρ' : EnU) (h : ofa (mE e) 0 ρ = true) (hl : litA ρ = ρ') (q : vE V e ρ' (fun x => K.ex x (frz ρ)) K.rt) : vSs V (.cons (.ret e) r) ρ K := by
  show vE V e (seeF false (mE e) 0 ρ) (fun x => K.ex x (frz ρ)) K.rt
  rw [see_litA 0 h, hl]; exact q
end
section
variable {V : VM} {r a : Sms} {ρ : EnS} {K : KV}
theorem vs_if0 {c : Te} (ρ' : EnU) (h : fzm ρ = some ρ') (q : vT V c ρ' (fun x => K.ex x (frz ρ)) fun k => if k = true then vSs V a ρ { K with nx := fun ρ1 => vSs V r ρ1 K } else vSs V r ρ K) : vSs V (.cons (.ifs c a .nil) r) ρ K := by
  show vT V c (seeF false (mT c) 0 ρ) (fun x => K.ex x (frz ρ)) fun k => if k = true then vSs V a ρ { K with nx := fun ρ1 => vSs V r ρ1 K } else vSs V r ρ K
  rw [fzm_see 0 h]; exact q
theorem vs_fo {tg : Tg} {it : Si} {b : Sms} (ρ' : EnU) (h : fzm ρ = some ρ') (hx : V.exn = none) (q : vI V it ρ' (fun x => K.ex x (frz ρ)) fun items => vFor tg (vSs V b) { K with nx := fun ρ1 => vSs V r ρ1 K } items ρ) : vSs V (.cons (.fo tg it b) r) ρ K := by
  show V.exn = none ∧ vI V it (seeF false (mI it) 0 ρ) (fun x => K.ex x (frz ρ)) fun items => vFor tg (vSs V b) { K with nx := fun ρ1 => vSs V r ρ1 K } items (aftI it ρ)
  refine ⟨hx, ?_⟩
  rw [fzm_see 0 h]
  have e : aftI it ρ = ρ := by
    cases it <;> first | rfl | exact fzm_aft 0 h
  rw [e]; exact q
end
theorem zs {n : Nat} (h : (Nat.ble n 50) = true) : n ≤ sizeLine := small (Nat.le_trans (Nat.le_of_ble_eq_true h) (by decide))
theorem vComp_on {α : Type} {step : U → (Option U → Prop) → Prop} {Q : List U → Prop} (f g : α → U) : ∀ (xs : List α) (acc : List U), (∀ a ∈ xs, ∀ K : Option U → Prop, K (some (g a)) → step (f a) K) → acc.length + xs.length < 100000 → Q (acc ++ xs.map g) → vComp step (xs.map f) acc Q
  | [], acc, _, _, q => by
    have q : Q acc := by simpa using q
    exact q
  | a :: xs, acc, h, hl, q => by
    refine h a List.mem_cons_self _ ?_
    have hl : acc.length + (xs.length + 1) < 100000 := hl
    have hz : 100000 ≤ sizeLine := by rw [sizeLine_eq]; decide
    refine ⟨by omega, vComp_on f g xs (acc ++ [g a]) (fun v hv => h v (List.mem_cons_of_mem _ hv)) (by rw [List.length_append]; show acc.length + 1 + xs.length < _; omega) ?_⟩
    rw [List.append_assoc]; exact q
theorem vComp_of {α : Type} {step : U → (Option U → Prop) → Prop} {Q : List U → Prop} (f g : α → U) (xs : List α) (h : ∀ a ∈ xs, ∀ K : Option U → Prop, K (some (g a)) → step (f a) K) (hl : xs.length ≤ 1000) (q : Q (xs.map g)) : vComp step (xs.map f) [] Q :=
  vComp_on f g xs [] h (by simp; omega) (by simpa using q)
end VW
namespace LW
open PySem PySem.Spec L2 DL
def m_law_pick17 : Sms := (.cons (.ret (.ix (.var 1) (.call 21 (.cons (.var 0) (.cons (.bi .len (.cons (.var 1) .nil)) .nil))))) .nil)
def m_law_number17 : Sms := (.cons (.set 1 (.call 21 (.cons (.var 0) (.cons (.int 12) .nil)))) (.cons (.ifs (.cmp .Eq (.var 1) (.int 0)) (.cons (.ret (.int 0)) .nil) .nil) (.cons (.ifs (.cmp .Eq (.var 1) (.int 1)) (.cons (.ret (.op .Mult (.op .Mult (.call 49 (.cons (.var 0) (.cons (.lst (.cons (.int 1) (.cons (.neg (.int 1)) .nil))) .nil))) (.op .Add (.int 1) (.call 21 (.cons (.var 0) (.cons (.op .Pow (.int 10) (.int 6)) .nil))))) (.op .Add (.int 1) (.call 21 (.cons (.var 0) (.cons (.op .Pow (.int 10) (.int 6)) .nil)))))) .nil) .nil) (.cons (.ifs (.cmp .Lt (.var 1) (.int 4)) (.cons (.ret (.op .Sub (.call 21 (.cons (.var 0) (.cons (.int 61) .nil))) (.int 30))) .nil) .nil) (.cons (.ret (.op .Sub (.call 21 (.cons (.var 0) (.cons (.int 9) .nil))) (.int 4))) .nil)))))
def m_law_gcd17 : Sms := (.cons (.set 0 (.bi .abs (.cons (.var 0) .nil))) (.cons (.set 1 (.bi .abs (.cons (.var 1) .nil))) (.cons (.fo (.nm 2) (.rng1 (.int 20000)) (.cons (.ifs (.cmp .Eq (.var 1) (.int 0)) (.cons .brk .nil) .nil) (.cons (.set 3 (.op .Mod (.bi .int (.cons (.var 0) .nil)) (.var 1))) (.cons (.set 0 (.var 1)) (.cons (.set 1 (.var 3)) .nil))))) (.cons (.ret (.var 0)) .nil))))
def m_law_ratio17 : Sms := (.cons (.set 2 (.call 22 (.cons (.var 0) (.cons (.var 1) .nil)))) (.cons (.ret (.tup (.cons (.op .FloorDiv (.var 0) (.var 2)) (.cons (.op .FloorDiv (.var 1) (.var 2)) .nil)))) .nil))
def m_law_any_ratio17 : Sms := (.cons (.set 1 (.call 152 (.cons (.var 0) .nil))) (.cons (.ifs (.cmp .Gt (.call 21 (.cons (.var 0) (.cons (.int 3) .nil))) (.int 0)) (.cons (.ret (.tup (.cons (.var 1) (.cons (.int 1) .nil)))) .nil) .nil) (.cons (.ret (.call 23 (.cons (.var 1) (.cons (.op .Add (.int 1) (.bi .abs (.cons (.call 152 (.cons (.var 0) .nil)) .nil))) .nil)))) .nil)))
def m_law_drawn17 : Sms := (.cons (.set 1 (.call 153 (.cons (.var 0) .nil))) (.cons (.set 2 (.call 153 (.cons (.var 0) .nil))) (.cons (.ifs (.cmp .Eq (.call 21 (.cons (.var 0) (.cons (.int 6) .nil))) (.int 0)) (.cons (.set 1 (.tup (.cons (.int 0) (.cons (.int 1) .nil)))) .nil) .nil) (.cons (.ifs (.cmp .Eq (.call 21 (.cons (.var 0) (.cons (.int 6) .nil))) (.int 0)) (.cons (.set 2 (.tup (.cons (.int 0) (.cons (.int 1) .nil)))) .nil) .nil) (.cons (.set 3 (.call 153 (.cons (.var 0) .nil))) (.cons (.ifs (.cmp .Eq (.call 21 (.cons (.var 0) (.cons (.int 6) .nil))) (.int 0)) (.cons (.set 3 (.tup (.cons (.int 0) (.cons (.int 1) .nil)))) .nil) .nil) (.cons (.ret (.tup (.cons (.var 1) (.cons (.var 2) (.cons (.var 3) (.cons (.cmp .Eq (.call 21 (.cons (.var 0) (.cons (.int 2) .nil))) (.int 1)) .nil)))))) .nil)))))))
def m_row_of : Sms := (.cons (.set 3 (.bi .lcm (.cons (.ix (.var 0) (.int 1)) (.cons (.ix (.var 1) (.int 1)) (.cons (.ix (.var 2) (.int 1)) .nil))))) (.cons (.setLc 4 [7, 6] (.tup (.cons (.nm 7) (.cons (.nm 6) .nil))) (.seq (.tup (.cons (.var 0) (.cons (.var 1) (.cons (.var 2) .nil))))) .none (.op .Mult (.var 7) (.op .FloorDiv (.var 3) (.var 6)))) (.cons (.set 5 (.bop .Or (.cons (.bi .gcd (.cons (.ix (.var 4) (.int 0)) (.cons (.ix (.var 4) (.int 1)) (.cons (.ix (.var 4) (.int 2)) .nil)))) (.cons (.int 1) .nil)))) (.cons (.ret (.bi .tuple (.cons (.lc [8] (.nm 8) (.seq (.var 4)) .none (.op .FloorDiv (.var 8) (.var 5))) .nil))) .nil))))
def m_HalfPlane_init : Sms := (.cons (.fo (.tup (.cons (.nm 5) (.cons (.nm 6) .nil))) (.seq (.tup (.cons (.tup (.cons (.str "p") (.cons (.var 1) .nil))) (.cons (.tup (.cons (.str "q") (.cons (.var 2) .nil))) (.cons (.tup (.cons (.str "r") (.cons (.var 3) .nil))) .nil))))) (.cons (.ifs (.not (.val (.call 5 (.cons (.var 6) .nil)))) (.cons (.raise 147 (.cons (.var 5) .nil)) .nil) .nil) .nil)) (.cons (.ifs (.bop .And (.cons (.cmp .IsNot (.var 4) (.bl true)) (.cons (.cmp .IsNot (.var 4) (.bl false)) .nil))) (.cons (.raise 147 (.cons (.str "strict") .nil)) .nil) .nil) (.cons (.setF (.var 0) "p" (.var 1)) (.cons (.setF (.var 0) "q" (.var 2)) (.cons (.setF (.var 0) "r" (.var 3)) (.cons (.setF (.var 0) "strict" (.var 4)) (.cons (.setF (.var 0) "row" (.call 149 (.cons (.var 1) (.cons (.var 2) (.cons (.var 3) .nil))))) .nil)))))))
def m_law_told17 : Sms := (.cons (.trA (.cons (.set 1 (.mk 148 (.cons (.ix (.var 0) (.int 0)) (.cons (.ix (.var 0) (.int 1)) (.cons (.ix (.var 0) (.int 2)) (.cons (.ix (.var 0) (.int 3)) .nil)))))) .nil) 2 147 (.cons (.ret (.lst (.cons (.bl false) (.cons (.xfl (.var 2) "what") .nil)))) .nil)) (.cons (.ret (.lst (.cons (.bl true) (.cons (.var 1) .nil)))) .nil))
def m_law_odd17 : Sms := (.cons (.ifs (.cmp .Eq (.var 1) (.int 3)) (.cons (.ret (.call 49 (.cons (.var 0) (.cons (.lst (.cons (.int 0) (.cons (.int 1) (.cons .non (.cons (.str "True") (.cons (.tup (.cons (.bl true) .nil)) (.cons (.int 2) .nil))))))) .nil)))) .nil) .nil) (.cons (.set 2 (.lst (.cons .non (.cons (.int 1) (.cons (.bl true) (.cons (.lst (.cons (.int 1) (.cons (.int 2) .nil))) (.cons (.tup (.cons (.int 2) (.cons (.int 4) .nil))) (.cons (.tup (.cons (.int 1) (.cons (.int 0) .nil))) (.cons (.tup (.cons (.int 1) (.cons (.neg (.int 2)) .nil))) (.cons (.tup (.cons (.bl true) (.cons (.int 1) .nil))) (.cons (.tup (.cons (.int 1) (.cons (.bl true) .nil))) (.cons (.str "1") (.cons (.tup (.cons (.int 1) (.cons (.int 1) (.cons (.int 1) .nil)))) (.cons (.tup (.cons (.int 1) .nil)) (.cons (.tup .nil) (.cons (.tup (.cons (.int 0) (.cons (.int 2) .nil))) (.cons (.tup (.cons (.str "1") (.cons (.int 1) .nil))) .nil))))))))))))))))) (.cons (.ret (.call 49 (.cons (.var 0) (.cons (.var 2) .nil)))) .nil)))
def m_law_refused17 : Sms := (.cons (.set 2 (.bi .list (.cons (.var 1) .nil))) (.cons (.set 3 (.lst (.cons (.str "p") (.cons (.str "q") (.cons (.str "r") (.cons (.str "strict") .nil)))))) (.cons (.set 4 (.lst .nil)) (.cons (.fo (.nm 5) (.rng1 (.int 4)) (.cons (.ifs (.cmp .Eq (.call 21 (.cons (.var 0) (.cons (.int 3) .nil))) (.int 0)) (.cons (.setS (.var 2) (.var 5) (.call 158 (.cons (.var 0) (.cons (.var 5) .nil)))) (.cons (.expr (.mth .append (.var 4) (.cons (.ix (.var 3) (.var 5)) .nil))) .nil)) .nil) .nil)) (.cons (.set 6 (.call 65 (.cons (.var 2) .nil))) (.cons (.ifs (.cmp .Eq (.var 4) (.lst .nil)) (.cons (.ret (.cmp .Is (.ix (.var 6) (.int 0)) (.bl true))) .nil) .nil) (.cons (.ret (.bop .And (.cons (.cmp .Is (.ix (.var 6) (.int 0)) (.bl false)) (.cons (.cmp .Eq (.ix (.var 6) (.int 1)) (.ix (.var 4) (.int 0))) .nil)))) .nil)))))))
def m_HalfPlane_opposite : Sms := (.cons (.ret (.mk 148 (.cons (.call 12 (.cons (.fld (.var 0) "p") .nil)) (.cons (.call 12 (.cons (.fld (.var 0) "q") .nil)) (.cons (.call 12 (.cons (.fld (.var 0) "r") .nil)) (.cons (.not (.fld (.var 0) "strict")) .nil)))))) .nil)
def m_HalfPlane_eq : Sms := (.cons (.ret (.bop .And (.cons (.iso (.var 1) 148) (.cons (.cmp .Eq (.fld (.var 0) "p") (.fld (.var 1) "p")) (.cons (.cmp .Eq (.fld (.var 0) "q") (.fld (.var 1) "q")) (.cons (.cmp .Eq (.fld (.var 0) "r") (.fld (.var 1) "r")) (.cons (.cmp .Eq (.fld (.var 0) "strict") (.fld (.var 1) "strict")) .nil))))))) .nil)
def m_HalfPlane_excess_at : Sms := (.cons (.setTl (.cons (.nm 2) (.cons (.nm 3) .nil)) (.var 1)) (.cons (.ret (.call 9 (.cons (.call 8 (.cons (.call 10 (.cons (.fld (.var 0) "p") (.cons (.var 2) .nil))) (.cons (.call 10 (.cons (.fld (.var 0) "q") (.cons (.var 3) .nil))) .nil))) (.cons (.fld (.var 0) "r") .nil)))) .nil))
def m_HalfPlane_closed : Sms := (.cons (.ret (.mk 148 (.cons (.fld (.var 0) "p") (.cons (.fld (.var 0) "q") (.cons (.fld (.var 0) "r") .nil))))) .nil)
def m_law_is_truth17 : Sms := (.cons (.ret (.ite (.val (.var 1)) (.cmp .Is (.var 0) (.bl true)) (.cmp .Is (.var 0) (.bl false)))) .nil)
def m_law_row17 : Sms := (.cons (.set 1 (.op .Mult (.op .Mult (.ix (.ix (.var 0) (.int 0)) (.int 1)) (.ix (.ix (.var 0) (.int 1)) (.int 1))) (.ix (.ix (.var 0) (.int 2)) (.int 1)))) (.cons (.setLc 2 [4] (.nm 4) (.seq (.slc (.var 0) .none (.some (.int 3)))) .none (.op .Mult (.ix (.var 4) (.int 0)) (.op .FloorDiv (.var 1) (.ix (.var 4) (.int 1))))) (.cons (.set 3 (.bi .max (.cons (.int 1) (.cons (.call 22 (.cons (.call 22 (.cons (.ix (.var 2) (.int 0)) (.cons (.ix (.var 2) (.int 1)) .nil))) (.cons (.ix (.var 2) (.int 2)) .nil))) .nil)))) (.cons (.ret (.bi .tuple (.cons (.lc [5] (.nm 5) (.seq (.var 2)) .none (.op .FloorDiv (.var 5) (.var 3))) .nil))) .nil))))
def m_HalfPlane_reach : Sms := (.cons (.setT (.tup (.cons (.nm 1) (.cons (.nm 2) (.cons (.nm 3) .nil)))) (.fld (.var 0) "row")) (.cons (.ifs (.bop .Or (.cons (.cmp .NotEq (.var 1) (.int 0)) (.cons (.cmp .NotEq (.var 2) (.int 0)) .nil))) (.cons (.ret (.str "line")) .nil) .nil) (.cons (.ret (.ite (.bop .Or (.cons (.cmp .Gt (.var 3) (.int 0)) (.cons (.bop .And (.cons (.cmp .Eq (.var 3) (.int 0)) (.cons (.val (.fld (.var 0) "strict")) .nil))) .nil))) (.str "none") (.str "all"))) .nil)))
def m_law_reach17 : Sms := (.cons (.ifs (.bop .Or (.cons (.cmp .NotEq (.ix (.ix (.var 0) (.int 0)) (.int 0)) (.int 0)) (.cons (.cmp .NotEq (.ix (.ix (.var 0) (.int 1)) (.int 0)) (.int 0)) .nil))) (.cons (.ret (.str "line")) .nil) .nil) (.cons (.ifs (.bop .Or (.cons (.cmp .Lt (.ix (.ix (.var 0) (.int 2)) (.int 0)) (.int 0)) (.cons (.bop .And (.cons (.cmp .Eq (.ix (.ix (.var 0) (.int 2)) (.int 0)) (.int 0)) (.cons (.not (.val (.ix (.var 0) (.int 3)))) .nil))) .nil))) (.cons (.ret (.str "all")) .nil) .nil) (.cons (.ret (.str "none")) .nil)))
def m_law_is_whole17 : Sms := (.cons (.ret (.bop .And (.cons (.bi .isi (.cons (.var 0) (.cons (.tyn .int) .nil))) (.cons (.not (.bi .isi (.cons (.var 0) (.cons (.tyn .bool) .nil)))) .nil)))) .nil)
def m_law_is_ratio17 : Sms := (.cons (.ifs (.bop .Or (.cons (.not (.val (.bi .isi (.cons (.var 0) (.cons (.tyn .tuple) .nil))))) (.cons (.cmp .NotEq (.bi .len (.cons (.var 0) .nil)) (.int 2)) .nil))) (.cons (.ret (.bl false)) .nil) .nil) (.cons (.ifs (.bop .Or (.cons (.not (.val (.call 151 (.cons (.ix (.var 0) (.int 0)) .nil)))) (.cons (.not (.val (.call 151 (.cons (.ix (.var 0) (.int 1)) .nil)))) (.cons (.cmp .Lt (.ix (.var 0) (.int 1)) (.int 1)) .nil)))) (.cons (.ret (.bl false)) .nil) .nil) (.cons (.ret (.cmp .Eq (.call 22 (.cons (.ix (.var 0) (.int 0)) (.cons (.ix (.var 0) (.int 1)) .nil))) (.int 1))) .nil)))
def m_law_fits17 : Sms := (.cons (.ifs (.bop .Or (.cons (.cmp .NotEq (.fld (.var 0) "p") (.ix (.var 1) (.int 0))) (.cons (.cmp .NotEq (.fld (.var 0) "q") (.ix (.var 1) (.int 1))) (.cons (.cmp .NotEq (.fld (.var 0) "r") (.ix (.var 1) (.int 2))) (.cons (.not (.val (.call 156 (.cons (.fld (.var 0) "strict") (.cons (.ix (.var 1) (.int 3)) .nil))))) .nil))))) (.cons (.ret (.bl false)) .nil) .nil) (.cons (.ifs (.cmp .NotEq (.lc [3] (.nm 3) (.seq (.tup (.cons (.fld (.var 0) "p") (.cons (.fld (.var 0) "q") (.cons (.fld (.var 0) "r") .nil))))) (.some (.not (.val (.call 30 (.cons (.var 3) .nil))))) (.var 3)) (.lst .nil)) (.cons (.ret (.bl false)) .nil) .nil) (.cons (.set 2 (.fld (.var 0) "row")) (.cons (.ifs (.bop .Or (.cons (.not (.val (.bi .isi (.cons (.var 2) (.cons (.tyn .tuple) .nil))))) (.cons (.cmp .NotEq (.lc [4] (.nm 4) (.seq (.var 2)) (.some (.not (.val (.call 151 (.cons (.var 4) .nil))))) (.var 4)) (.lst .nil)) .nil))) (.cons (.ret (.bl false)) .nil) .nil) (.cons (.ret (.bop .And (.cons (.cmp .Eq (.var 2) (.call 159 (.cons (.var 1) .nil))) (.cons (.cmp .Eq (.prp 148 (.var 0) "reach") (.call 160 (.cons (.var 1) .nil))) .nil)))) .nil)))))
def m_law_less17 : Sms := (.cons (.ret (.call 23 (.cons (.op .Sub (.op .Mult (.ix (.var 0) (.int 0)) (.ix (.var 1) (.int 1))) (.op .Mult (.ix (.var 1) (.int 0)) (.ix (.var 0) (.int 1)))) (.cons (.op .Mult (.ix (.var 0) (.int 1)) (.ix (.var 1) (.int 1))) .nil)))) .nil)
def m_law_plus17 : Sms := (.cons (.ret (.call 23 (.cons (.op .Add (.op .Mult (.ix (.var 0) (.int 0)) (.ix (.var 1) (.int 1))) (.op .Mult (.ix (.var 1) (.int 0)) (.ix (.var 0) (.int 1)))) (.cons (.op .Mult (.ix (.var 0) (.int 1)) (.ix (.var 1) (.int 1))) .nil)))) .nil)
def m_law_times17 : Sms := (.cons (.ret (.call 23 (.cons (.op .Mult (.ix (.var 0) (.int 0)) (.ix (.var 1) (.int 0))) (.cons (.op .Mult (.ix (.var 0) (.int 1)) (.ix (.var 1) (.int 1))) .nil)))) .nil)
def m_law_excess17 : Sms := (.cons (.ret (.call 150 (.cons (.call 24 (.cons (.call 26 (.cons (.ix (.var 0) (.int 0)) (.cons (.ix (.var 1) (.int 0)) .nil))) (.cons (.call 26 (.cons (.ix (.var 0) (.int 1)) (.cons (.ix (.var 1) (.int 1)) .nil))) .nil))) (.cons (.ix (.var 0) (.int 2)) .nil)))) .nil)
def m_HalfPlane_holds_cargo : Sms := (.cons (.setT (.tup (.cons (.nm 2) (.cons (.nm 3) (.cons (.nm 4) .nil)))) (.fld (.var 0) "row")) (.cons (.setTl (.cons (.tup (.cons (.nm 5) (.cons (.nm 6) .nil))) (.cons (.tup (.cons (.nm 7) (.cons (.nm 8) .nil))) .nil)) (.var 1)) (.cons (.set 9 (.op .Sub (.op .Add (.op .Mult (.op .Mult (.var 2) (.var 5)) (.var 8)) (.op .Mult (.op .Mult (.var 3) (.var 7)) (.var 6))) (.op .Mult (.op .Mult (.var 4) (.var 6)) (.var 8)))) (.cons (.ret (.bop .Or (.cons (.cmp .Gt (.var 9) (.int 0)) (.cons (.bop .And (.cons (.cmp .Eq (.var 9) (.int 0)) (.cons (.not (.fld (.var 0) "strict")) .nil))) .nil)))) .nil))))
def m_law_is_in17 : Sms := (.cons (.set 2 (.ix (.call 154 (.cons (.var 0) (.cons (.var 1) .nil))) (.int 0))) (.cons (.ret (.bop .Or (.cons (.cmp .Gt (.var 2) (.int 0)) (.cons (.bop .And (.cons (.cmp .Eq (.var 2) (.int 0)) (.cons (.not (.ix (.var 0) (.int 3))) .nil))) .nil)))) .nil))
def m_law_is_told17 : Sms := (.cons (.set 4 (.op .Add (.bi .tuple (.cons (.lc [10] (.nm 10) (.seq (.slc (.var 2) .none (.some (.int 3)))) .none (.tup (.cons (.neg (.ix (.var 10) (.int 0))) (.cons (.ix (.var 10) (.int 1)) .nil)))) .nil)) (.tup (.cons (.not (.ix (.var 2) (.int 3))) .nil)))) (.cons (.set 5 (.op .Add (.slc (.var 2) .none (.some (.int 3))) (.tup (.cons (.bl false) .nil)))) (.cons (.set 6 (.mc 148 (.var 1) "opposite" .nil)) (.cons (.ifs (.bop .Or (.cons (.not (.val (.call 162 (.cons (.var 6) (.cons (.var 4) .nil))))) (.cons (.not (.val (.call 162 (.cons (.mc 148 (.var 1) "closed" .nil) (.cons (.var 5) .nil))))) (.cons (.not (.val (.call 162 (.cons (.var 1) (.cons (.var 2) .nil))))) .nil)))) (.cons (.ret (.bl false)) .nil) .nil) (.cons (.fo (.nm 7) (.seq (.var 3)) (.cons (.set 8 (.ite (.cmp .Eq (.call 21 (.cons (.var 0) (.cons (.int 2) .nil))) (.int 0)) (.bi .list (.cons (.var 7) .nil)) (.var 7))) (.cons (.set 9 (.mc 148 (.var 1) "excess_at" (.cons (.var 8) .nil))) (.cons (.ifs (.bop .Or (.cons (.not (.val (.call 30 (.cons (.var 9) .nil)))) (.cons (.cmp .NotEq (.var 9) (.call 154 (.cons (.var 2) (.cons (.var 7) .nil)))) .nil))) (.cons (.ret (.bl false)) .nil) .nil) (.cons (.ifs (.not (.val (.call 156 (.cons (.mc 148 (.var 1) "holds_cargo" (.cons (.var 8) .nil)) (.cons (.call 155 (.cons (.var 2) (.cons (.var 7) .nil))) .nil))))) (.cons (.ret (.bl false)) .nil) .nil) (.cons (.ifs (.not (.val (.call 156 (.cons (.mc 148 (.var 6) "holds_cargo" (.cons (.var 8) .nil)) (.cons (.call 155 (.cons (.var 4) (.cons (.var 7) .nil))) .nil))))) (.cons (.ret (.bl false)) .nil) .nil) (.cons (.ifs (.not (.val (.call 156 (.cons (.mc 148 (.mc 148 (.var 1) "closed" .nil) "holds_cargo" (.cons (.var 8) .nil)) (.cons (.call 155 (.cons (.var 5) (.cons (.var 7) .nil))) .nil))))) (.cons (.ret (.bl false)) .nil) .nil) (.cons (.ifs (.bop .And (.cons (.cmp .NotEq (.var 8) (.var 7)) (.cons (.cmp .NotEq (.var 8) (.bi .list (.cons (.var 7) .nil))) .nil))) (.cons (.ret (.bl false)) .nil) .nil) .nil)))))))) (.cons (.ret (.oeq 148 (.mc 148 (.var 1) "closed" .nil) (.mk 148 (.cons (.ix (.var 2) (.int 0)) (.cons (.ix (.var 2) (.int 1)) (.cons (.ix (.var 2) (.int 2)) .nil)))))) .nil))))))
def m_law_points17 : Sms := (.cons (.setLc 2 [6] (.nm 6) (.rng1 (.int 3)) .none (.tup (.cons (.call 153 (.cons (.var 0) .nil)) (.cons (.call 153 (.cons (.var 0) .nil)) .nil)))) (.cons (.set 3 (.call 153 (.cons (.var 0) .nil))) (.cons (.ifs (.cmp .NotEq (.ix (.ix (.var 1) (.int 0)) (.int 0)) (.int 0)) (.cons (.set 4 (.call 150 (.cons (.ix (.var 1) (.int 2)) (.cons (.call 26 (.cons (.ix (.var 1) (.int 1)) (.cons (.var 3) .nil))) .nil)))) (.cons (.set 5 (.ite (.cmp .Gt (.ix (.ix (.var 1) (.int 0)) (.int 0)) (.int 0)) (.tup (.cons (.ix (.ix (.var 1) (.int 0)) (.int 1)) (.cons (.ix (.ix (.var 1) (.int 0)) (.int 0)) .nil))) (.tup (.cons (.neg (.ix (.ix (.var 1) (.int 0)) (.int 1))) (.cons (.neg (.ix (.ix (.var 1) (.int 0)) (.int 0))) .nil))))) (.cons (.expr (.mth .append (.var 2) (.cons (.tup (.cons (.call 26 (.cons (.var 4) (.cons (.var 5) .nil))) (.cons (.var 3) .nil))) .nil))) .nil))) (.cons (.ifs (.cmp .NotEq (.ix (.ix (.var 1) (.int 1)) (.int 0)) (.int 0)) (.cons (.set 5 (.ite (.cmp .Gt (.ix (.ix (.var 1) (.int 1)) (.int 0)) (.int 0)) (.tup (.cons (.ix (.ix (.var 1) (.int 1)) (.int 1)) (.cons (.ix (.ix (.var 1) (.int 1)) (.int 0)) .nil))) (.tup (.cons (.neg (.ix (.ix (.var 1) (.int 1)) (.int 1))) (.cons (.neg (.ix (.ix (.var 1) (.int 1)) (.int 0))) .nil))))) (.cons (.expr (.mth .append (.var 2) (.cons (.tup (.cons (.var 3) (.cons (.call 26 (.cons (.ix (.var 1) (.int 2)) (.cons (.var 5) .nil))) .nil))) .nil))) .nil)) .nil) .nil)) (.cons (.ret (.var 2)) .nil))))
def m_HalfPlane_is_same : Sms := (.cons (.ifs (.cmp .NotEq (.prp 148 (.var 0) "reach") (.prp 148 (.var 1) "reach")) (.cons (.ret (.bl false)) .nil) .nil) (.cons (.ret (.bop .Or (.cons (.cmp .NotEq (.prp 148 (.var 0) "reach") (.str "line")) (.cons (.bop .And (.cons (.cmp .Eq (.fld (.var 0) "row") (.fld (.var 1) "row")) (.cons (.cmp .Eq (.fld (.var 0) "strict") (.fld (.var 1) "strict")) .nil))) .nil)))) .nil))
def m_law_same_points17 : Sms := (.cons (.ifs (.bop .Or (.cons (.cmp .NotEq (.call 160 (.cons (.var 0) .nil)) (.str "line")) (.cons (.cmp .NotEq (.call 160 (.cons (.var 1) .nil)) (.str "line")) .nil))) (.cons (.ret (.cmp .Eq (.call 160 (.cons (.var 0) .nil)) (.call 160 (.cons (.var 1) .nil)))) .nil) .nil) (.cons (.ret (.bop .And (.cons (.cmp .Eq (.call 159 (.cons (.var 0) .nil)) (.call 159 (.cons (.var 1) .nil))) (.cons (.cmp .Eq (.ix (.var 0) (.int 3)) (.ix (.var 1) (.int 3))) .nil)))) .nil))
def m_law_compared17 : Sms := (.cons (.set 4 (.call 23 (.cons (.op .Add (.int 1) (.call 21 (.cons (.var 0) (.cons (.int 12) .nil)))) (.cons (.op .Add (.int 1) (.call 21 (.cons (.var 0) (.cons (.int 6) .nil)))) .nil)))) (.cons (.set 5 (.op .Add (.bi .tuple (.cons (.lc [10] (.nm 10) (.seq (.slc (.var 2) .none (.some (.int 3)))) .none (.call 26 (.cons (.var 10) (.cons (.var 4) .nil)))) .nil)) (.tup (.cons (.ix (.var 2) (.int 3)) .nil)))) (.cons (.set 6 (.bi .list (.cons (.var 2) .nil))) (.cons (.set 7 (.call 21 (.cons (.var 0) (.cons (.int 4) .nil)))) (.cons (.ifs (.cmp .Eq (.var 7) (.int 3)) (.cons (.setS (.var 6) (.int 3) (.not (.ix (.var 2) (.int 3)))) .nil) (.cons (.setS (.var 6) (.var 7) (.call 24 (.cons (.ix (.var 2) (.var 7)) (.cons (.call 49 (.cons (.var 0) (.cons (.lst (.cons (.tup (.cons (.int 1) (.cons (.int 1) .nil))) (.cons (.tup (.cons (.neg (.int 1)) (.cons (.int 1) .nil))) (.cons (.tup (.cons (.int 1) (.cons (.int 7) .nil))) (.cons (.ix (.var 2) (.var 7)) .nil))))) .nil))) .nil)))) .nil)) (.cons (.fo (.nm 8) (.seq (.tup (.cons (.var 5) (.cons (.bi .tuple (.cons (.var 6) .nil)) (.cons (.var 3) (.cons (.var 2) .nil)))))) (.cons (.set 9 (.mk 148 (.cons (.ix (.var 8) (.int 0)) (.cons (.ix (.var 8) (.int 1)) (.cons (.ix (.var 8) (.int 2)) (.cons (.ix (.var 8) (.int 3)) .nil)))))) (.cons (.ifs (.not (.val (.call 156 (.cons (.mc 148 (.var 1) "is_same" (.cons (.var 9) .nil)) (.cons (.call 164 (.cons (.var 2) (.cons (.var 8) .nil))) .nil))))) (.cons (.ret (.bl false)) .nil) .nil) (.cons (.ifs (.not (.val (.call 156 (.cons (.mc 148 (.var 9) "is_same" (.cons (.var 1) .nil)) (.cons (.call 164 (.cons (.var 2) (.cons (.var 8) .nil))) .nil))))) (.cons (.ret (.bl false)) .nil) .nil) (.cons (.ifs (.bop .Or (.cons (.not (.val (.call 156 (.cons (.oeq 148 (.var 1) (.var 9)) (.cons (.cmp .Eq (.var 2) (.var 8)) .nil))))) (.cons (.not (.val (.call 156 (.cons (.one 148 (.var 1) (.var 9)) (.cons (.cmp .NotEq (.var 2) (.var 8)) .nil))))) .nil))) (.cons (.ret (.bl false)) .nil) .nil) .nil))))) (.cons (.ret (.bop .And (.cons (.not (.oeq 148 (.var 1) (.var 2))) (.cons (.not (.oeq 148 (.var 1) (.int 0))) .nil)))) .nil)))))))
def m_law17 : Sms := (.cons (.set 1 (.call 20 (.cons (.var 0) .nil))) (.cons (.fo (.nm 2) (.rng1 (.int 4)) (.cons (.set 3 (.call 157 (.cons (.var 1) .nil))) (.cons (.set 4 (.call 157 (.cons (.var 1) .nil))) (.cons (.ifs (.not (.val (.call 31 (.cons (.var 1) (.cons (.var 3) .nil))))) (.cons (.ret (.bl false)) .nil) .nil) (.cons (.set 5 (.call 65 (.cons (.var 3) .nil))) (.cons (.ifs (.cmp .Is (.ix (.var 5) (.int 0)) (.bl false)) (.cons (.ret (.bl false)) .nil) .nil) (.cons (.set 6 (.ix (.var 5) (.int 1))) (.cons (.set 7 (.mk 148 (.cons (.ix (.var 3) (.int 0)) (.cons (.ix (.var 3) (.int 1)) (.cons (.ix (.var 3) (.int 2)) .nil))))) (.cons (.ifs (.bop .Or (.cons (.cmp .IsNot (.fld (.var 7) "strict") (.bl false)) (.cons (.not (.val (.call 162 (.cons (.var 6) (.cons (.var 3) .nil))))) .nil))) (.cons (.ret (.bl false)) .nil) .nil) (.cons (.set 8 (.mkk 148 (.cons (.ix (.var 4) (.int 0)) (.cons (.ix (.var 4) (.int 1)) (.cons (.ix (.var 4) (.int 2)) .nil))) [(Str.ofString "strict")] (.cons (.ix (.var 4) (.int 3)) .nil))) (.cons (.ifs (.not (.val (.call 163 (.cons (.var 1) (.cons (.var 6) (.cons (.var 3) (.cons (.call 161 (.cons (.var 1) (.cons (.var 3) .nil))) .nil))))))) (.cons (.ret (.bl false)) .nil) .nil) (.cons (.ifs (.not (.val (.call 163 (.cons (.var 1) (.cons (.var 8) (.cons (.var 4) (.cons (.call 161 (.cons (.var 1) (.cons (.var 4) .nil))) .nil))))))) (.cons (.ret (.bl false)) .nil) .nil) (.cons (.ifs (.bop .Or (.cons (.not (.val (.call 165 (.cons (.var 1) (.cons (.var 6) (.cons (.var 3) (.cons (.var 4) .nil))))))) (.cons (.not (.val (.call 162 (.cons (.var 6) (.cons (.var 3) .nil))))) .nil))) (.cons (.ret (.bl false)) .nil) .nil) .nil))))))))))))) (.cons (.ret (.bl true)) .nil)))
end LW
set_option exponentiation.threshold 9000
namespace VK
open PySem PySem.Spec L2 DL LW VL VW
def Zn (n : Nat) (p : Rt) : Prop := Red p ∧ Sz n p
theorem Zn.up {n m : Nat} {p : Rt} (h : Zn n p) (k : n ≤ m) : Zn m p := ⟨h.1, h.2.mono k⟩
theorem zn_mul {n m : Nat} {x y : Rt} (h1 : Zn n x) (h2 : Zn m y) : Zn (n + m) (mulP x y) := ⟨mulP_red h1.1.1 h2.1.1, mulP_sz h1.2 h2.2⟩
theorem zn_add {n m : Nat} {x y : Rt} (h1 : Zn n x) (h2 : Zn m y) : Zn (n + m + 1) (sumP x y) := ⟨sumP_red h1.1.1 h2.1.1, sumP_sz h1.2 h2.2⟩
theorem ng_sum {x y : Rt} : subP x y = sumP x (-y.1, y.2) := by
  unfold subP sumP
  rw [Int.neg_mul]; rfl
theorem zn_neg {n : Nat} {x : Rt} (h : Zn n x) : Zn n (-x.1, x.2) := ⟨⟨h.1.1, by show Nat.gcd (-x.1).natAbs x.2.natAbs = 1; rw [Int.natAbs_neg]; exact h.1.2⟩, by show (-x.1).natAbs < _; rw [Int.natAbs_neg]; exact h.2.1, h.2.2.1, h.2.2.2⟩
theorem zn_sub {n m : Nat} {x y : Rt} (h1 : Zn n x) (h2 : Zn m y) : Zn (n + m + 1) (subP x y) := by
  rw [ng_sum]; exact zn_add h1 (zn_neg h2)
theorem zn_low {n : Nat} {a b : Int} (ha : a.natAbs < 2 ^ n) (hb : b.natAbs < 2 ^ n) (b0 : b ≠ 0) : Zn n (lowP a b) := by
  obtain ⟨h1, h2⟩ := lowP_le (a := a) b0
  have r : Red (lowP a b) := lowP_red b0
  exact ⟨r, Nat.lt_of_le_of_lt h1 ha, Nat.lt_of_le_of_lt h2 hb, r.1⟩
theorem zn_int {n : Nat} {k : Int} (h : k.natAbs < 2 ^ n) (n0 : 0 < n) : Zn n (k, 1) := ⟨red_one k, h, Nat.one_lt_two_pow (by omega), Int.one_pos⟩
def vsp_gcd17 : VSp := fun us _ Q => ∃ a b : Int, us = [.int a, .int b] ∧ a.natAbs < 2 ^ 8000 ∧ b.natAbs < 2 ^ 8000 ∧ Q (.int (Nat.gcd a.natAbs b.natAbs : Nat))
abbrev V_gcd17 : VM := VM.fns []
def b_gcd : Sms := (.cons (.ifs (.cmp .Eq (.var 1) (.int 0)) (.cons .brk .nil) .nil) (.cons (.set 3 (.op .Mod (.bi .int (.cons (.var 0) .nil)) (.var 1))) (.cons (.set 0 (.var 1)) (.cons (.set 1 (.var 3)) .nil))))
theorem half_mod {x y : Nat} (h : y ≤ x) (y0 : 0 < y) : 2 * (x % y) ≤ x := by
  have h1 := Nat.mod_lt x y0
  have h2 := Nat.div_add_mod x y
  have h3 : 1 ≤ x / y := Nat.div_pos h y0
  have h4 : y * 1 ≤ y * (x / y) := Nat.mul_le_mul_left y h3
  omega
def Eu (x y m : Nat) : Prop := y ≤ x ∧ (y = 0 ∨ x * y < 2 ^ m)
theorem eu_step {x y m : Nat} (h : Eu x y (m + 1)) (y0 : 0 < y) : Eu y (x % y) m := by
  refine ⟨Nat.le_of_lt (Nat.mod_lt x y0), ?_⟩
  have h2 := h.2.resolve_left (by omega)
  have h3 := half_mod h.1 y0
  refine .inr ?_
  have h4 : y * (2 * (x % y)) ≤ y * x := Nat.mul_le_mul_left y h3
  have e1 : y * (2 * (x % y)) = 2 * (y * (x % y)) := by rw [← Nat.mul_assoc, Nat.mul_comm y 2, Nat.mul_assoc]
  have e2 : y * x = x * y := Nat.mul_comm _ _
  rw [Nat.pow_succ] at h2
  omega
theorem eu_zero {x y : Nat} (h : Eu x y 0) : y = 0 := by
  rcases h with ⟨h1, h2⟩
  rcases h2 with h2 | h2
  · exact h2
  · rcases Nat.eq_zero_or_pos y with z | z
    · exact z
    · have : 1 ≤ x * y := Nat.mul_pos (by omega) z
      omega
theorem v_gturn {K : KV} : ∀ (m : Nat) (l : List U) (x y : Nat) (x2 x3 : Sl), l.length ≥ m → l.length ≥ 1 → Eu x y m → (∀ x2 x3, K.nx [.fz (.int (Nat.gcd x y : Nat)), .fz (.int 0), x2, x3]) →
    vFor (.nm 2) (vSs V_gcd17 b_gcd) K l [.fz (.int x), .fz (.int y), x2, x3]
  | m, [], x, y, x2, x3, h1, h0, he, k => absurd h0 (by simp)
  | m, u :: l, x, y, x2, x3, h1, h0, he, k => by
    refine ⟨_, rfl, ?_⟩
    show vSs V_gcd17 b_gcd [.fz (.int x), .fz (.int y), .fz u, x3] _
    refine ⟨_, eq_int _ _, ?_⟩
    by_cases y0 : (y : Int) = 0
    · have z : y = 0 := by omega
      subst z
      rw [decide_eq_true y0]
      refine iteT ?_
      have := k (.fz u) x3
      rw [Nat.gcd_zero_right] at this
      exact this
    · rw [decide_eq_false y0]
      refine iteF ?_
      have yp : 0 < y := by omega
      refine ⟨by omega, ?_⟩
      have em : (x : Int) % (y : Int) = ((x % y : Nat) : Int) := by omega
      rw [em]
      show vFor (.nm 2) (vSs V_gcd17 b_gcd) K l [.fz (.int y), .fz (.int ((x % y : Nat) : Int)), .fz u, .fz (.int ((x % y : Nat) : Int))]
      have eg : Nat.gcd y (x % y) = Nat.gcd x y := by rw [Nat.gcd_comm y (x % y), ← Nat.gcd_rec y x, Nat.gcd_comm]
      match m, he, h1 with
      | 0, he, h1 => exact absurd (eu_zero he) (by omega)
      | m + 1, he, h1 =>
        have he' := eu_step he yp
        cases l with
        | nil =>
          have : m = 0 := by simp at h1; omega
          subst this
          have z := eu_zero he'
          rw [z]
          rw [z, Nat.gcd_zero_right] at eg
          have := k (.fz u) (.fz (.int ((0 : Nat) : Int)))
          rw [← eg] at this
          exact this
        | cons v l =>
          exact v_gturn m (v :: l) y (x % y) _ _ (by simp at h1 ⊢; omega) (by simp) he' (by rw [eg]; exact k)
theorem natAbs_if {a : Int} : (if a < 0 then -a else a) = (a.natAbs : Int) := by split <;> omega
theorem rng_len {n : Nat} : (rngU 0 n).length = n := by unfold rngU; rw [List.length_map, List.length_range]
theorem prod_lt {x y n : Nat} (hx : x < 2 ^ n) (hy : y < 2 ^ n) : x * y < 2 ^ (n + n) := by
  rw [Nat.pow_add]
  rcases Nat.eq_zero_or_pos y with z | z
  · rw [z, Nat.mul_zero]; exact Nat.mul_pos (Nat.two_pow_pos _) (Nat.two_pow_pos _)
  · exact Nat.mul_lt_mul_of_lt_of_lt hx hy
theorem v_gfor {K : KV} (l : List U) (m : Nat) (hl : m + 1 ≤ l.length) (m1 : 1 ≤ m) (x y : Nat) (pr : x * y < 2 ^ m) (x2 x3 : Sl) (k : ∀ x2 x3, K.nx [.fz (.int (Nat.gcd x y : Nat)), .fz (.int 0), x2, x3]) :
    vFor (.nm 2) (vSs V_gcd17 b_gcd) K l [.fz (.int x), .fz (.int y), x2, x3] := by
  rcases Nat.le_total y x with h | h
  · exact v_gturn m l x y _ _ (by omega) (by omega) ⟨h, .inr pr⟩ k
  · -- one turn to sort them
    cases l with
    | nil => simp at hl
    | cons u l =>
      have hl : m ≤ l.length := by simp at hl; omega
      refine ⟨_, rfl, ?_⟩
      show vSs V_gcd17 b_gcd [.fz (.int x), .fz (.int y), .fz u, x3] _
      refine ⟨_, eq_int _ _, ?_⟩
      by_cases y0 : (y : Int) = 0
      · have z : y = 0 := by omega
        subst z
        rw [decide_eq_true y0]
        refine iteT ?_
        have := k (.fz u) x3
        rw [Nat.gcd_zero_right] at this
        exact this
      · rw [decide_eq_false y0]
        refine iteF ?_
        have yp : 0 < y := by omega
        refine ⟨by omega, ?_⟩
        have em : (x : Int) % (y : Int) = ((x % y : Nat) : Int) := by omega
        rw [em]
        show vFor (.nm 2) (vSs V_gcd17 b_gcd) K l [.fz (.int y), .fz (.int ((x % y : Nat) : Int)), .fz u, .fz (.int ((x % y : Nat) : Int))]
        have eg : Nat.gcd y (x % y) = Nat.gcd x y := by rw [Nat.gcd_comm y (x % y), ← Nat.gcd_rec y x, Nat.gcd_comm]
        have hx : x % y ≤ x := Nat.mod_le x y
        refine v_gturn m l y (x % y) _ _ (by omega) (by omega) ⟨Nat.le_of_lt (Nat.mod_lt x yp), .inr ?_⟩ (by rw [eg]; exact k)
        calc y * (x % y) ≤ y * x := Nat.mul_le_mul_left y hx
          _ = x * y := Nat.mul_comm _ _
          _ < 2 ^ m := pr
def mg (n : Int) : Sms := (.cons (.set 0 (.bi .abs (.cons (.var 0) .nil))) (.cons (.set 1 (.bi .abs (.cons (.var 1) .nil))) (.cons (.fo (.nm 2) (.rng1 (.int n)) b_gcd) (.cons (.ret (.var 0)) .nil))))
theorem v_gcdN (n : Int) (n0 : sml n) (hn : 16001 ≤ n.toNat) : ∀ us E Q, us.length = 2 → vsp_gcd17 us E Q → bodyV V_gcd17 4 (mg n) us E Q := by
  rintro us E Q hl ⟨a, b, rfl, za, zb, k⟩
  refine vs_set [some (.int a), some (.int b), none, none] rfl rfl ?_
  show vSs V_gcd17 (tlS (mg n)) [.fz (.int (if a < 0 then -a else a)), .fz (.int b), .no, .no] (kvB E Q)
  rw [natAbs_if]
  refine vs_set [some (.int a.natAbs), some (.int b), none, none] rfl rfl ?_
  show vSs V_gcd17 (tlS (tlS (mg n))) [.fz (.int a.natAbs), .fz (.int (if b < 0 then -b else b)), .no, .no] (kvB E Q)
  rw [natAbs_if]
  have pr := prod_lt za zb
  generalize a.natAbs = x at pr k ⊢
  generalize b.natAbs = y at pr k ⊢
  refine vs_fo [some (.int x), some (.int y), none, none] rfl rfl ?_
  refine ⟨n0, ?_⟩
  have hl : 16000 + 1 ≤ (rngU 0 n.toNat).length := by rw [rng_len]; exact hn
  generalize rngU 0 n.toNat = l at hl ⊢
  exact v_gfor l (8000 + 8000) hl (by decide) x y pr _ _ fun x2 x3 => k
theorem v_gcd17 : ∀ us E Q, us.length = 2 → vsp_gcd17 us E Q → bodyV V_gcd17 4 m_law_gcd17 us E Q := by
  have e : m_law_gcd17 = mg 20000 := rfl
  rw [e]
  exact v_gcdN 20000 ⟨by decide, by decide⟩ (by decide)
end VK
set_option exponentiation.threshold 9000
namespace VK
open PySem PySem.Spec L2 DL LW VL VW
def vsp_rat : VSp := fun us _ Q => ∃ a b : Int, us = [.int a, .int b] ∧ 0 < b ∧ a.natAbs < 2 ^ 8000 ∧ b.natAbs < 2 ^ 8000 ∧ Q (ru (lowP a b))
abbrev V_rat : VM := VM.fns [(22, .fn 2 vsp_gcd17 [])]
theorem v_rat : ∀ us E Q, us.length = 2 → vsp_rat us E Q → bodyV V_rat 3 m_law_ratio17 us E Q := by
  rintro us E Q hl ⟨a, b, rfl, b0, za, zb, k⟩
  refine vs_set [some (.int a), some (.int b), none] rfl rfl ?_
  refine cV1 rfl ⟨a, b, rfl, za, zb, ?_⟩
  have e : lowP a b = (a.fdiv (Nat.gcd a.natAbs b.natAbs : Nat), b.fdiv (Nat.gcd a.natAbs b.natAbs : Nat)) := by
    unfold lowP
    rw [if_neg (by omega)]
  rw [e] at k
  have g0 : 0 < Nat.gcd a.natAbs b.natAbs := Nat.gcd_pos_of_pos_right _ (by omega)
  have gb : Nat.gcd a.natAbs b.natAbs ≤ b.natAbs := Nat.gcd_le_right _ (by omega)
  have gl : ((Nat.gcd a.natAbs b.natAbs : Nat) : Int).natAbs.log2 < 9000 := by
    rw [Int.natAbs_natCast]
    exact Nat.lt_trans (log2_lt (Nat.lt_of_le_of_lt gb zb) (by decide)) (by decide)
  generalize Nat.gcd a.natAbs b.natAbs = g at g0 gl k ⊢
  show vSs V_rat (tlS m_law_ratio17) [.fz (.int a), .fz (.int b), .fz (.int g)] (kvB E Q)
  refine vs_ret [some (.int a), some (.int b), some (.int g)] rfl ?_
  exact ⟨⟨by omega, gl⟩, ⟨by omega, gl⟩, zs rfl, k⟩
abbrev V_two17 : VM := VM.fns [(23, .fn 2 vsp_rat [])]
theorem w_mul {i j : Int} {n m : Nat} (hi : i.natAbs < 2 ^ n) (hj : j.natAbs < 2 ^ m) : (i * j).natAbs < 2 ^ (n + m) := by
  rw [Int.natAbs_mul, Nat.pow_add]
  rcases Nat.eq_zero_or_pos j.natAbs with z | z
  · rw [z, Nat.mul_zero]; exact Nat.mul_pos (Nat.two_pow_pos _) (Nat.two_pow_pos _)
  · exact Nat.mul_lt_mul_of_lt_of_lt hi hj
theorem w_up {i : Int} {n m : Nat} (h : i.natAbs < 2 ^ n) (k : n ≤ m) : i.natAbs < 2 ^ m := Nat.lt_of_lt_of_le h (Nat.pow_le_pow_right (by decide) k)
theorem w_add {i j : Int} {n : Nat} (hi : i.natAbs < 2 ^ n) (hj : j.natAbs < 2 ^ n) : (i + j).natAbs < 2 ^ (n + 1) := by rw [Nat.pow_succ]; omega
theorem w_sub {i j : Int} {n : Nat} (hi : i.natAbs < 2 ^ n) (hj : j.natAbs < 2 ^ n) : (i - j).natAbs < 2 ^ (n + 1) := by rw [Nat.pow_succ]; omega
theorem w_mulB {i j : Int} (hi : i.natAbs < 2 ^ 3000) (hj : j.natAbs < 2 ^ 3000) : MulB i j := mulB_of hi hj (by decide) (by decide) (by decide)
abbrev vsp_plus : VSp := vsp_two fun p q => ru (sumP p q)
abbrev vsp_times : VSp := vsp_two fun p q => ru (mulP p q)
abbrev vsp_less : VSp := vsp_two fun p q => ru (subP p q)
theorem v_plus17 : ∀ us E Q, us.length = 2 → vsp_plus us E Q → bodyV V_two17 2 m_law_plus17 us E Q := by
  rintro us E Q hl ⟨p, q, rfl, hp, hq, k⟩
  refine vs_ret [some (ru p), some (ru q)] rfl ?_
  refine ⟨.int p.1, rfl, .int q.2, rfl, w_mulB hp.1 hq.2.1, .int q.1, rfl, .int p.2, rfl, w_mulB hq.1 hp.2.1, .int p.2, rfl, .int q.2, rfl, w_mulB hp.2.1 hq.2.1, ?_⟩
  exact cV1 rfl ⟨_, _, rfl, Int.mul_pos hp.2.2 hq.2.2, w_up (w_add (w_mul hp.1 hq.2.1) (w_mul hq.1 hp.2.1)) (by decide), w_up (w_mul hp.2.1 hq.2.1) (by decide), k⟩
theorem v_less17 : ∀ us E Q, us.length = 2 → vsp_less us E Q → bodyV V_two17 2 m_law_less17 us E Q := by
  rintro us E Q hl ⟨p, q, rfl, hp, hq, k⟩
  refine vs_ret [some (ru p), some (ru q)] rfl ?_
  refine ⟨.int p.1, rfl, .int q.2, rfl, w_mulB hp.1 hq.2.1, .int q.1, rfl, .int p.2, rfl, w_mulB hq.1 hp.2.1, .int p.2, rfl, .int q.2, rfl, w_mulB hp.2.1 hq.2.1, ?_⟩
  exact cV1 rfl ⟨_, _, rfl, Int.mul_pos hp.2.2 hq.2.2, w_up (w_sub (w_mul hp.1 hq.2.1) (w_mul hq.1 hp.2.1)) (by decide), w_up (w_mul hp.2.1 hq.2.1) (by decide), k⟩
theorem v_times17 : ∀ us E Q, us.length = 2 → vsp_times us E Q → bodyV V_two17 2 m_law_times17 us E Q := by
  rintro us E Q hl ⟨p, q, rfl, hp, hq, k⟩
  refine vs_ret [some (ru p), some (ru q)] rfl ?_
  refine ⟨.int p.1, rfl, .int q.1, rfl, w_mulB hp.1 hq.1, .int p.2, rfl, .int q.2, rfl, w_mulB hp.2.1 hq.2.1, ?_⟩
  exact cV1 rfl ⟨_, _, rfl, Int.mul_pos hp.2.2 hq.2.2, w_up (w_mul hp.1 hq.1) (by decide), w_up (w_mul hp.2.1 hq.2.1) (by decide), k⟩
def vsp_pick : VSp := fun us _ Q => ∃ xs : List U, us = [.hand, .lst xs] ∧ 0 < xs.length ∧ xs.length ≤ 100 ∧ ∀ x ∈ xs, Q x
abbrev V_pick : VM := VM.fns [(21, ve_draw)]
theorem v_pick : ∀ us E Q, us.length = 2 → vsp_pick us E Q → bodyV V_pick 2 m_law_pick17 us E Q := by
  rintro us E Q hl ⟨xs, rfl, h0, h1, k⟩
  refine vs_ret [some .hand, some (.lst xs)] rfl ?_
  refine cV_draw (k := (xs.length : Int)) (by omega) (by omega) fun v v0 v1 => ?_
  obtain ⟨u, hu, ha⟩ := pick_at (us := xs) v0 v1
  exact ⟨u, ha, k u hu⟩
def vsp_num : VSp := fun us _ Q => us = [.hand] ∧ ∀ i : Int, i.natAbs < 2 ^ 41 → Q (.int i)
abbrev V_num : VM := VM.fns [(21, ve_draw), (49, .fn 2 vsp_pick [])]
theorem v_num : ∀ us E Q, us.length = 1 → vsp_num us E Q → bodyV V_num 2 m_law_number17 us E Q := by
  rintro us E Q hl ⟨rfl, k⟩
  refine vs_set [some .hand, none] rfl rfl ?_
  refine cV_draw (k := 12) (by decide) (by decide) fun v v0 v1 => ?_
  show vSs V_num (tlS m_law_number17) [.fz .hand, .fz (.int v)] (kvB E Q)
  refine vs_if0 [some .hand, some (.int v)] rfl ?_
  refine ⟨_, eq_int _ _, ?_⟩
  by_cases c1 : v = 0
  · rw [decide_eq_true c1]
    refine iteT ?_
    exact k 0 (by decide)
  rw [decide_eq_false c1]
  refine iteF ?_
  refine vs_if0 [some .hand, some (.int v)] rfl ?_
  refine ⟨_, eq_int _ _, ?_⟩
  by_cases c2 : v = 1
  · rw [decide_eq_true c2]
    refine iteT ?_
    refine vs_ret [some .hand, some (.int v)] rfl ?_
    refine ⟨zs rfl, ?_⟩
    refine cV1 rfl ⟨_, rfl, by decide, by decide, fun x hx => ?_⟩
    have : ∃ s : Int, x = .int s ∧ s.natAbs ≤ 1 := by
      simp only [List.mem_cons, List.not_mem_nil, or_false] at hx
      rcases hx with rfl | rfl
      · exact ⟨1, rfl, by decide⟩
      · exact ⟨-1, rfl, by decide⟩
    obtain ⟨s, rfl, hs⟩ := this
    refine ⟨⟨by decide, by decide, by decide⟩, ?_⟩
    refine cV_draw (k := 10 ^ 6) (by decide) (by decide +kernel) fun w w0 w1 => ?_
    have w1 : w < 1000000 := w1
    have b1 : (s * (1 + w)).natAbs ≤ 1000000 := by
      rw [Int.natAbs_mul]
      have := Nat.mul_le_mul hs (show (1 + w).natAbs ≤ 1000000 by omega)
      omega
    refine ⟨mulB_of (a := 40) (b := 40) (by omega) (by omega) (by decide) (by decide) (by decide), ⟨by decide, by decide, by decide⟩, ?_⟩
    refine cV_draw (k := 10 ^ 6) (by decide) (by decide +kernel) fun x x0 x1 => ?_
    have x1 : x < 1000000 := x1
    refine ⟨mulB_of (a := 40) (b := 40) (by omega) (by omega) (by decide) (by decide) (by decide), ?_⟩
    refine k _ ?_
    rw [Int.natAbs_mul]
    have := Nat.mul_le_mul b1 (show (1 + x).natAbs ≤ 1000000 by omega)
    omega
  rw [decide_eq_false c2]
  refine iteF ?_
  refine vs_if0 [some .hand, some (.int v)] rfl ?_
  refine ⟨_, rfl, ?_⟩
  by_cases c3 : v < 4
  · rw [decide_eq_true c3]
    refine iteT ?_
    refine vs_ret [some .hand, some (.int v)] rfl ?_
    refine cV_draw (k := 61) (by decide) (by decide) fun w w0 w1 => ?_
    exact k _ (by omega)
  · rw [decide_eq_false c3]
    refine iteF ?_
    refine vs_ret [some .hand, some (.int v)] rfl ?_
    refine cV_draw (k := 9) (by decide) (by decide) fun w w0 w1 => ?_
    exact k _ (by omega)
def vsp_any : VSp := fun us _ Q => us = [.hand] ∧ ∀ r : Rt, Zn 42 r → Q (ru r)
abbrev V_any : VM := VM.fns [(21, ve_draw), (23, .fn 2 vsp_rat []), (152, .fn 1 vsp_num [])]
theorem v_any : ∀ us E Q, us.length = 1 → vsp_any us E Q → bodyV V_any 2 m_law_any_ratio17 us E Q := by
  rintro us E Q hl ⟨rfl, k⟩
  refine vs_set [some .hand, none] rfl rfl ?_
  refine cV1 rfl ⟨rfl, fun i hi => ?_⟩
  show vSs V_any (tlS m_law_any_ratio17) [.fz .hand, .fz (.int i)] (kvB E Q)
  refine vs_if0 [some .hand, some (.int i)] rfl ?_
  refine cV_draw (k := 3) (by decide) (by decide) fun v v0 v1 => ?_
  refine ⟨_, rfl, ?_⟩
  by_cases c : 0 < v
  · rw [decide_eq_true c]
    refine iteT ?_
    refine vs_ret [some .hand, some (.int i)] rfl ?_
    exact ⟨zs rfl, k (i, 1) (zn_int (w_up hi (by decide)) (by decide))⟩
  · rw [decide_eq_false c]
    refine iteF ?_
    refine vs_ret [some .hand, some (.int i)] rfl ?_
    refine cV1 rfl ⟨rfl, fun j hj => ?_⟩
    have hb : (1 + if j < 0 then -j else j).natAbs < 2 ^ 42 ∧ 0 < (1 + if j < 0 then -j else j) := by
      constructor
      · split <;> omega
      · split <;> omega
    refine cV1 rfl ⟨i, _, rfl, hb.2, w_up hi (by decide), w_up hb.1 (by decide), ?_⟩
    exact k _ (zn_low (w_up hi (by decide)) hb.1 (by omega))
end VK
set_option exponentiation.threshold 9000
namespace VK
open PySem PySem.Spec L2 DL LW VL VW
structure HalfR where
  p : Rt
  q : Rt
  r : Rt
  st : Bool
  deriving DecidableEq
def uhf (h : HalfR) : U := .tup [ru h.p, ru h.q, ru h.r, .bl h.st]
structure Hz (n : Nat) (h : HalfR) : Prop where
  p : Zn n h.p
  q : Zn n h.q
  r : Zn n h.r
theorem Hz.up {n m : Nat} {h : HalfR} (z : Hz n h) (k : n ≤ m) : Hz m h := ⟨z.p.up k, z.q.up k, z.r.up k⟩
def vsp_drawn : VSp := fun us _ Q => us = [.hand] ∧ ∀ h, Hz 42 h → Q (uhf h)
abbrev V_drawn : VM := VM.fns [(21, ve_draw), (153, .fn 1 vsp_any [])]
theorem zn_zero {n : Nat} (h : 0 < n) : Zn n ((0, 1) : Rt) := zn_int (k := 0) (Nat.two_pow_pos n) h
theorem v_drawn : ∀ us E Q, us.length = 1 → vsp_drawn us E Q → bodyV V_drawn 4 m_law_drawn17 us E Q := by
  rintro us E Q hl ⟨rfl, k⟩
  have t2 : ∀ a b : Int, ([U.int a, U.int b] : List U).length ≤ sizeLine := fun a b => zs rfl
  refine vs_set [some .hand, none, none, none] rfl rfl ?_
  refine cV1 rfl ⟨rfl, fun p zp => ?_⟩
  show vSs V_drawn (tlS m_law_drawn17) [.fz .hand, .fz (ru p), .no, .no] (kvB E Q)
  refine vs_set [some .hand, some (ru p), none, none] rfl rfl ?_
  refine cV1 rfl ⟨rfl, fun q zq => ?_⟩
  show vSs V_drawn (tlS (tlS m_law_drawn17)) [.fz .hand, .fz (ru p), .fz (ru q), .no] (kvB E Q)
  have k4 : ∀ p q r : Rt, Zn 42 p → Zn 42 q → Zn 42 r → vSs V_drawn (tlS (tlS (tlS (tlS (tlS (tlS m_law_drawn17)))))) [.fz .hand, .fz (ru p), .fz (ru q), .fz (ru r)] (kvB E Q) := fun p q r zp zq zr => by
    refine vs_ret [some .hand, some (ru p), some (ru q), some (ru r)] rfl ?_
    refine cV_draw (k := 2) (by decide) (by decide) fun v v0 v1 => ?_
    exact ⟨_, eq_int _ _, zs rfl, k ⟨p, q, r, decide (v = 1)⟩ ⟨zp, zq, zr⟩⟩
  have k3 : ∀ p q : Rt, Zn 42 p → Zn 42 q → vSs V_drawn (tlS (tlS (tlS (tlS m_law_drawn17)))) [.fz .hand, .fz (ru p), .fz (ru q), .no] (kvB E Q) := fun p q zp zq => by
    refine vs_set [some .hand, some (ru p), some (ru q), none] rfl rfl ?_
    refine cV1 rfl ⟨rfl, fun r zr => ?_⟩
    show vSs V_drawn (tlS (tlS (tlS (tlS (tlS m_law_drawn17))))) [.fz .hand, .fz (ru p), .fz (ru q), .fz (ru r)] (kvB E Q)
    refine vs_if0 [some .hand, some (ru p), some (ru q), some (ru r)] rfl ?_
    refine cV_draw (k := 6) (by decide) (by decide) fun v v0 v1 => ⟨_, eq_int _ _, ?_⟩
    by_cases c : v = 0
    · rw [decide_eq_true c]
      refine iteT ?_
      refine vs_set [some .hand, some (ru p), some (ru q), some (ru r)] rfl rfl ?_
      exact ⟨zs rfl, k4 p q (0, 1) zp zq (zn_zero (by decide))⟩
    · rw [decide_eq_false c]
      exact iteF (k4 p q r zp zq zr)
  have k2 : ∀ p q : Rt, Zn 42 p → Zn 42 q → vSs V_drawn (tlS (tlS (tlS m_law_drawn17))) [.fz .hand, .fz (ru p), .fz (ru q), .no] (kvB E Q) := fun p q zp zq => by
    refine vs_if0 [some .hand, some (ru p), some (ru q), none] rfl ?_
    refine cV_draw (k := 6) (by decide) (by decide) fun v v0 v1 => ⟨_, eq_int _ _, ?_⟩
    by_cases c : v = 0
    · rw [decide_eq_true c]
      refine iteT ?_
      refine vs_set [some .hand, some (ru p), some (ru q), none] rfl rfl ?_
      exact ⟨zs rfl, k3 p (0, 1) zp (zn_zero (by decide))⟩
    · rw [decide_eq_false c]
      exact iteF (k3 p q zp zq)
  refine vs_if0 [some .hand, some (ru p), some (ru q), none] rfl ?_
  refine cV_draw (k := 6) (by decide) (by decide) fun v v0 v1 => ⟨_, eq_int _ _, ?_⟩
  by_cases c : v = 0
  · rw [decide_eq_true c]
    refine iteT ?_
    refine vs_set [some .hand, some (ru p), some (ru q), none] rfl rfl ?_
    exact ⟨zs rfl, k2 (0, 1) q (zn_zero (by decide)) zq⟩
  · rw [decide_eq_false c]
    exact iteF (k2 p q zp zq)
def lcm3 (a b c : Int) : Int := (Nat.lcm (Nat.lcm a.natAbs b.natAbs) c.natAbs : Nat)
def gcd3 (a b c : Int) : Int := (Nat.gcd (Nat.gcd a.natAbs b.natAbs) c.natAbs : Nat)
def over (x : Rt) (L : Int) : Int := x.1 * L.fdiv x.2
structure Row3 where
  a : Int
  b : Int
  c : Int
  deriving DecidableEq
def uro (w : Row3) : U := .tup [.int w.a, .int w.b, .int w.c]
def dvR (a b c g : Int) : Row3 := ⟨a.fdiv g, b.fdiv g, c.fdiv g⟩
def rowI (p q r : Rt) : Row3 :=
  let L := lcm3 p.2 q.2 r.2
  let g := gcd3 (over p L) (over q L) (over r L)
  dvR (over p L) (over q L) (over r L) (if g = 0 then 1 else g)
def vsp_row : VSp := fun us _ Q => ∃ p q r : Rt, us = [ru p, ru q, ru r] ∧ Zn 200 p ∧ Zn 200 q ∧ Zn 200 r ∧ Q (uro (rowI p q r))
abbrev V_rowof : VM := VM.fns []
theorem lcm_nat_lt {x y m n : Nat} (hx : x < 2 ^ m) (hy : y < 2 ^ n) : Nat.lcm x y < 2 ^ (m + n) := lcm_lt hx hy
theorem over_lt {x : Rt} {L : Int} {m n : Nat} (hx : x.1.natAbs < 2 ^ m) (h0 : 0 < x.2) (hL : L.natAbs < 2 ^ n) (L0 : 0 ≤ L) : L.fdiv x.2 = L / x.2 ∧ (L.fdiv x.2).natAbs < 2 ^ n ∧ (over x L).natAbs < 2 ^ (m + n) := by
  have e : L.fdiv x.2 = L / x.2 := Int.fdiv_eq_ediv_of_nonneg _ (Int.le_of_lt h0)
  have h1 : 0 ≤ L / x.2 := Int.ediv_nonneg L0 (Int.le_of_lt h0)
  have h2 : L / x.2 ≤ L := Int.ediv_le_self _ L0
  have h3 : (L.fdiv x.2).natAbs < 2 ^ n := by rw [e]; omega
  exact ⟨e, h3, w_mul hx h3⟩
theorem lcm3_pos {a b c : Int} (h1 : 0 < a) (h2 : 0 < b) (h3 : 0 < c) : 0 < lcm3 a b c := by
  unfold lcm3
  have : 0 < Nat.lcm (Nat.lcm a.natAbs b.natAbs) c.natAbs := Nat.lcm_pos (Nat.lcm_pos (by omega) (by omega)) (by omega)
  omega
theorem v_rowof : ∀ us E Q, us.length = 3 → vsp_row us E Q → bodyV V_rowof 9 m_row_of us E Q := by
  rintro us E Q hl ⟨p, q, r, rfl, zp, zq, zr, k⟩
  have lz : Lsz p.2 q.2 r.2 := by
    have h : ∀ {x : Rt}, Zn 200 x → x.2.natAbs.log2 < 1000 := fun z => Nat.lt_trans (log2_lt z.2.2.1 (by decide)) (by decide)
    exact ⟨h zp, h zq, h zr⟩
  have L0 := lcm3_pos zp.1.1 zq.1.1 zr.1.1
  have Lz : (lcm3 p.2 q.2 r.2).natAbs < 2 ^ 600 := by
    unfold lcm3
    rw [Int.natAbs_natCast]
    exact lcm_nat_lt (lcm_nat_lt zp.2.2.1 zq.2.2.1) zr.2.2.1
  refine vs_set [some (ru p), some (ru q), some (ru r), none, none, none, none, none, none] rfl rfl ?_
  refine ⟨.int p.2, rfl, .int q.2, rfl, .int r.2, rfl, lz, ?_⟩
  show vSs V_rowof (tlS m_row_of) [.fz (ru p), .fz (ru q), .fz (ru r), .fz (.int (lcm3 p.2 q.2 r.2)), .no, .no, .no, .no, .no] (kvB E Q)
  unfold rowI at k
  simp only at k
  generalize lcm3 p.2 q.2 r.2 = L at L0 Lz k ⊢
  obtain ⟨ep, bp, op⟩ := over_lt zp.2.1 zp.1.1 Lz (Int.le_of_lt L0)
  obtain ⟨eq, bq, oq⟩ := over_lt zq.2.1 zq.1.1 Lz (Int.le_of_lt L0)
  obtain ⟨er, br, or'⟩ := over_lt zr.2.1 zr.1.1 Lz (Int.le_of_lt L0)
  have dv : ∀ {x : Rt}, Zn 200 x → DivB x.2 := fun z => ⟨Int.ne_of_gt z.1.1, Nat.lt_trans (log2_lt z.2.2.1 (by decide)) (by decide)⟩
  have mu : ∀ {i j : Int}, i.natAbs < 2 ^ 200 → j.natAbs < 2 ^ 600 → MulB i j := fun h1 h2 => w_mulB (w_up h1 (by decide)) (w_up h2 (by decide))
  refine vl_lc [some (ru p), some (ru q), some (ru r), some (.int L), none, none, none, none, none] rfl rfl rfl ?_
  refine ⟨zs rfl, _, rfl, ?_⟩
  refine vComp_of ru (fun x => .int (over x L)) [p, q, r] (fun x hx K hK => ?_) (show 3 ≤ 1000 by decide) ?_
  · have zx : Zn 200 x ∧ (L.fdiv x.2).natAbs < 2 ^ 600 := by
      simp only [List.mem_cons, List.not_mem_nil, or_false] at hx
      rcases hx with rfl | rfl | rfl
      · exact ⟨zp, bp⟩
      · exact ⟨zq, bq⟩
      · exact ⟨zr, br⟩
    exact ⟨_, rfl, dv zx.1, mu zx.1.2.1 zx.2, hK⟩
  show vSs V_rowof (tlS (tlS m_row_of)) [.fz (ru p), .fz (ru q), .fz (ru r), .fz (.int L), .ow [.int (over p L), .int (over q L), .int (over r L)], .no, .no, .no, .no] (kvB E Q)
  generalize over p L = a at op k ⊢
  generalize over q L = b at oq k ⊢
  generalize over r L = c at or' k ⊢
  have key : ∀ g : Int, g ≠ 0 → g.natAbs < 2 ^ 900 → Q (uro (dvR a b c g)) → vSs V_rowof (tlS (tlS (tlS m_row_of))) [.fz (ru p), .fz (ru q), .fz (ru r), .fz (.int L), .ow [.int a, .int b, .int c], .fz (.int g), .no, .no, .no] (kvB E Q) := fun g g0 gz k => by
    have dg : DivB g := ⟨g0, Nat.lt_trans (log2_lt gz (by decide)) (by decide)⟩
    refine va_ret [some (ru p), some (ru q), some (ru r), some (.int L), some (.lst [.int a, .int b, .int c]), some (.int g), none, none, none] rfl rfl ?_
    refine ⟨rfl, _, rfl, ?_⟩
    refine vComp_of U.int (fun x => .int (x.fdiv g)) [a, b, c] (fun x hx K hK => ⟨_, rfl, dg, hK⟩) (show 3 ≤ 1000 by decide) ?_
    exact ⟨_, rfl, k⟩
  have gz : (gcd3 a b c).natAbs < 2 ^ 900 ∨ gcd3 a b c = 0 := by
    unfold gcd3
    rcases Nat.eq_zero_or_pos c.natAbs with z | z
    · rw [z, Nat.gcd_zero_right]
      rcases Nat.eq_zero_or_pos b.natAbs with z2 | z2
      · rw [z2, Nat.gcd_zero_right]; left; rw [Int.natAbs_natCast]; exact w_up op (by decide)
      · left
        rw [Int.natAbs_natCast]
        exact Nat.lt_of_le_of_lt (Nat.gcd_le_right _ z2) (w_up oq (by decide))
    · left
      rw [Int.natAbs_natCast]
      exact Nat.lt_of_le_of_lt (Nat.gcd_le_right _ z) (w_up or' (by decide))
  refine va_set [some (ru p), some (ru q), some (ru r), some (.int L), some (.lst [.int a, .int b, .int c]), none, none, none, none] rfl rfl ?_
  refine ⟨.int a, rfl, .int b, rfl, .int c, rfl, ?_⟩
  show (gcd3 a b c ≠ 0 ∧ _) ∨ (gcd3 a b c = 0 ∧ _)
  by_cases g0 : gcd3 a b c = 0
  · rw [if_pos g0] at k
    exact .inr ⟨g0, key 1 (by decide) (by decide) k⟩
  · rw [if_neg g0] at k
    exact .inl ⟨g0, key _ g0 (gz.resolve_right g0) k⟩
end VK
set_option exponentiation.threshold 9000
namespace VK
open PySem PySem.Spec L2 DL LW VL VW
def rowL (p q r : Rt) : Row3 :=
  let B := p.2 * q.2 * r.2
  let g := gcd3 (over p B) (over q B) (over r B)
  dvR (over p B) (over q B) (over r B) (if g > 1 then g else 1)
theorem over_mul {x : Rt} {L k : Int} (h0 : 0 < x.2) (L0 : 0 ≤ L) (k0 : 0 ≤ k) (d : x.2 ∣ L) : over x (k * L) = k * over x L := by
  unfold over
  rw [Int.fdiv_eq_ediv_of_nonneg _ (Int.le_of_lt h0), Int.fdiv_eq_ediv_of_nonneg _ (Int.le_of_lt h0)]
  obtain ⟨c, rfl⟩ := d
  rw [Int.mul_ediv_cancel_left _ (Int.ne_of_gt h0), show k * (x.2 * c) = x.2 * (k * c) by grind, Int.mul_ediv_cancel_left _ (Int.ne_of_gt h0)]
  grind
theorem gcd3_mul {a b c k : Int} (k0 : 0 ≤ k) : gcd3 (k * a) (k * b) (k * c) = k * gcd3 a b c := by
  unfold gcd3
  rw [Int.natAbs_mul, Int.natAbs_mul, Int.natAbs_mul, Nat.gcd_mul_left, Nat.gcd_mul_left, Int.natCast_mul]
  have : (k.natAbs : Int) = k := by omega
  rw [this]
theorem gcd3_nn {a b c : Int} : 0 ≤ gcd3 a b c := Int.natCast_nonneg _
theorem gcd3_zero {a b c : Int} (h : gcd3 a b c = 0) : a = 0 ∧ b = 0 ∧ c = 0 := by
  unfold gcd3 at h
  have h := Int.natCast_eq_zero.mp h
  obtain ⟨h1, h2⟩ := Nat.gcd_eq_zero_iff.mp h
  obtain ⟨h3, h4⟩ := Nat.gcd_eq_zero_iff.mp h1
  omega
theorem nd_ {n : Nat} {a : Int} (h : n ∣ a.natAbs) : (n : Int) ∣ a := Int.natAbs_dvd_natAbs.mp (by rw [Int.natAbs_natCast]; exact h)
theorem dn_ {n : Nat} {a : Int} (h : a.natAbs ∣ n) : a ∣ (n : Int) := Int.natAbs_dvd_natAbs.mp (by rw [Int.natAbs_natCast]; exact h)
theorem gcd3_dvd {a b c : Int} : gcd3 a b c ∣ a ∧ gcd3 a b c ∣ b ∧ gcd3 a b c ∣ c := by
  unfold gcd3
  refine ⟨?_, ?_, ?_⟩
  · exact nd_ (Nat.dvd_trans (Nat.gcd_dvd_left _ _) (Nat.gcd_dvd_left _ _))
  · exact nd_ (Nat.dvd_trans (Nat.gcd_dvd_left _ _) (Nat.gcd_dvd_right _ _))
  · exact nd_ (Nat.gcd_dvd_right _ _)
theorem fdiv_mul_cancel {k a g : Int} (k0 : 0 < k) (g0 : 0 < g) (d : g ∣ a) : (k * a).fdiv (k * g) = a.fdiv g := by
  obtain ⟨c, rfl⟩ := d
  have kg : 0 < k * g := Int.mul_pos k0 g0
  rw [Int.fdiv_eq_ediv_of_nonneg _ (Int.le_of_lt kg), Int.fdiv_eq_ediv_of_nonneg _ (Int.le_of_lt g0), Int.mul_ediv_cancel_left _ (Int.ne_of_gt g0), show k * (g * c) = k * g * c by grind, Int.mul_ediv_cancel_left _ (Int.ne_of_gt kg)]
theorem dvd_lcm3 {a b c : Int} (h1 : 0 < a) (h2 : 0 < b) (h3 : 0 < c) : a ∣ lcm3 a b c ∧ b ∣ lcm3 a b c ∧ c ∣ lcm3 a b c := by
  unfold lcm3
  have e : ∀ {x : Int}, 0 < x → x = (x.natAbs : Int) := fun h => by omega
  refine ⟨?_, ?_, ?_⟩
  · exact dn_ (Nat.dvd_trans (Nat.dvd_lcm_left _ _) (Nat.dvd_lcm_left _ _))
  · exact dn_ (Nat.dvd_trans (Nat.dvd_lcm_right _ _) (Nat.dvd_lcm_left _ _))
  · exact dn_ (Nat.dvd_lcm_right _ _)
theorem lcm3_dvd {a b c n : Int} (h1 : a ∣ n) (h2 : b ∣ n) (h3 : c ∣ n) : lcm3 a b c ∣ n := by
  unfold lcm3
  refine nd_ (Nat.lcm_dvd (Nat.lcm_dvd ?_ ?_) ?_)
  · exact Int.natAbs_dvd_natAbs.mpr h1
  · exact Int.natAbs_dvd_natAbs.mpr h2
  · exact Int.natAbs_dvd_natAbs.mpr h3
theorem row_eq {p q r : Rt} (hp : 0 < p.2) (hq : 0 < q.2) (hr : 0 < r.2) : rowL p q r = rowI p q r := by
  unfold rowL rowI
  have L0 := lcm3_pos hp hq hr
  obtain ⟨d1, d2, d3⟩ := dvd_lcm3 hp hq hr
  have dB : lcm3 p.2 q.2 r.2 ∣ p.2 * q.2 * r.2 := lcm3_dvd (Int.dvd_trans (Int.dvd_mul_right _ _) (Int.dvd_mul_right _ _)) (Int.dvd_trans (Int.dvd_mul_left _ _) (Int.dvd_mul_right _ _)) (Int.dvd_mul_left _ _)
  obtain ⟨k, hk⟩ := dB
  have B0 : 0 < p.2 * q.2 * r.2 := Int.mul_pos (Int.mul_pos hp hq) hr
  have hk' : p.2 * q.2 * r.2 = k * lcm3 p.2 q.2 r.2 := by rw [hk, Int.mul_comm]
  have k0 : 0 < k := by
    rw [hk'] at B0
    rcases Int.lt_or_le 0 k with h | h
    · exact h
    · have := Int.mul_le_mul_of_nonneg_right h (Int.le_of_lt L0)
      omega
  simp only
  rw [hk', over_mul hp (Int.le_of_lt L0) (Int.le_of_lt k0) d1, over_mul hq (Int.le_of_lt L0) (Int.le_of_lt k0) d2, over_mul hr (Int.le_of_lt L0) (Int.le_of_lt k0) d3]
  generalize over p (lcm3 p.2 q.2 r.2) = a
  generalize over q (lcm3 p.2 q.2 r.2) = b
  generalize over r (lcm3 p.2 q.2 r.2) = c
  rw [gcd3_mul (Int.le_of_lt k0)]
  by_cases g0 : gcd3 a b c = 0
  · obtain ⟨rfl, rfl, rfl⟩ := gcd3_zero g0
    rw [g0, if_pos rfl]
    simp [dvR]
  · rw [if_neg g0]
    have gp : 0 < gcd3 a b c := by have := gcd3_nn (a := a) (b := b) (c := c); omega
    have e : (if k * gcd3 a b c > 1 then k * gcd3 a b c else 1) = k * gcd3 a b c := by
      have := Int.mul_pos k0 gp
      split <;> omega
    rw [e]
    obtain ⟨e1, e2, e3⟩ := gcd3_dvd (a := a) (b := b) (c := c)
    unfold dvR
    rw [fdiv_mul_cancel k0 gp e1, fdiv_mul_cancel k0 gp e2, fdiv_mul_cancel k0 gp e3]
theorem rinv_pos {g : Rat} (h : 0 < g) : 0 < g⁻¹ := Rat.inv_pos.mpr h
theorem row_scale {p q r : Rt} (hp : 0 < p.2) (hq : 0 < q.2) (hr : 0 < r.2) : ∃ F : Rat, 0 < F ∧ ((rowI p q r).a : Rat) = F * val p ∧ ((rowI p q r).b : Rat) = F * val q ∧ ((rowI p q r).c : Rat) = F * val r := by
  unfold rowI
  have L0 := lcm3_pos hp hq hr
  obtain ⟨d1, d2, d3⟩ := dvd_lcm3 hp hq hr
  simp only
  generalize lcm3 p.2 q.2 r.2 = L at L0 d1 d2 d3
  have ov : ∀ {x : Rt}, 0 < x.2 → x.2 ∣ L → ((over x L : Int) : Rat) = L * val x := fun {x} h d => by
    obtain ⟨c, rfl⟩ := d
    unfold over val
    rw [Int.fdiv_eq_ediv_of_nonneg _ (Int.le_of_lt h), Int.mul_ediv_cancel_left _ (Int.ne_of_gt h), Rat.divInt_eq_div]
    have : (x.2 : Rat) ≠ 0 := fun z => Int.ne_of_gt h (Rat.intCast_eq_zero_iff.mp z)
    push_cast
    grind
  have e1 := ov hp d1
  have e2 := ov hq d2
  have e3 := ov hr d3
  generalize over p L = a at e1 ⊢
  generalize over q L = b at e2 ⊢
  generalize over r L = c at e3 ⊢
  have Lr : (0 : Rat) < L := Rat.intCast_pos.mpr L0
  have fin : ∀ g : Int, 0 < g → g ∣ a → g ∣ b → g ∣ c → ∃ F : Rat, 0 < F ∧ ((dvR a b c g).a : Rat) = F * val p ∧ ((dvR a b c g).b : Rat) = F * val q ∧ ((dvR a b c g).c : Rat) = F * val r := fun g gp d1 d2 d3 => by
    have gr : (0 : Rat) < g := Rat.intCast_pos.mpr gp
    have gn : (g : Rat) ≠ 0 := fun z => by rw [z] at gr; exact absurd gr (by decide)
    have dv : ∀ {x : Int}, g ∣ x → ((x.fdiv g : Int) : Rat) = x / g := fun {x} d => by
      obtain ⟨c, rfl⟩ := d
      rw [Int.fdiv_eq_ediv_of_nonneg _ (Int.le_of_lt gp), Int.mul_ediv_cancel_left _ (Int.ne_of_gt gp)]
      push_cast
      grind
    refine ⟨L / g, (by rw [Rat.div_def]; exact Rat.mul_pos Lr (rinv_pos gr)), ?_, ?_, ?_⟩
    · show ((a.fdiv g : Int) : Rat) = _
      rw [dv d1, e1]; grind
    · show ((b.fdiv g : Int) : Rat) = _
      rw [dv d2, e2]; grind
    · show ((c.fdiv g : Int) : Rat) = _
      rw [dv d3, e3]; grind
  by_cases g0 : gcd3 a b c = 0
  · rw [if_pos g0]
    exact fin 1 (by decide) (Int.one_dvd _) (Int.one_dvd _) (Int.one_dvd _)
  · rw [if_neg g0]
    obtain ⟨f1, f2, f3⟩ := gcd3_dvd (a := a) (b := b) (c := c)
    exact fin _ (by have := gcd3_nn (a := a) (b := b) (c := c); omega) f1 f2 f3
end VK
set_option exponentiation.threshold 9000
namespace VK
open PySem PySem.Spec L2 DL LW VL VW
abbrev hfKs : List Str := ["p", "q", "r", "strict", "row"]
abbrev rowH (h : HalfR) : Row3 := rowI h.p h.q h.r
def mdU (h : HalfR) : U := .obj 148 hfKs [ru h.p, ru h.q, ru h.r, .bl h.st, uro (rowH h)]
abbrev hfFl : List (Nat × Str × Unit) := [(148, "p", ()), (148, "q", ()), (148, "r", ()), (148, "strict", ()), (148, "row", ())]
def isBlU : U → Bool
  | .bl _ => true
  | _ => false
def hfault (a b c d : U) : Option Str := if (ratU a).isSome = true then (if (ratU b).isSome = true then (if (ratU c).isSome = true then (if isBlU d = true then none else some "strict") else some "r") else some "q") else some "p"
def vsp_half : VSi := fun us E Q => (∃ h, us = [ru h.p, ru h.q, ru h.r, .bl h.st] ∧ Hz 200 h ∧ Q hfKs [ru h.p, ru h.q, ru h.r, .bl h.st, uro (rowH h)]) ∨ ∃ a b c d w, us = [a, b, c, d] ∧ niU a = true ∧ niU b = true ∧ niU c = true ∧ tdU d = true ∧ hfault a b c d = some w ∧ E (xW 147 w)
abbrev V_half : VM := VM.of [(5, ve_isratio), (147, ve_w), (149, .fn 3 vsp_row [])] hfFl [] [] [] [] [] []
theorem raise_we {V : VM} {K : KV} {ρ : EnS} {g : Nat} {w : Str} {e : Ex} (h : V.gv g = ve_w) (hw : w.length ≤ 1000) (he : ∀ E Q, Q (.str w) → vE V e (see (mEs (.cons e .nil)) ρ) E Q) (q : K.ex (xW g w) (frz ρ)) : vS V (.raise g (.cons e .nil)) ρ K := by
  simp only [vS, vEs]
  exact ⟨by rw [h]; rfl, he _ _ (rai_w h hw q)⟩
theorem isbl_or {d : U} : (∃ b, d = .bl b) ∨ (isBlU d = false ∧ ∀ b, isBU d b = false) := by
  cases d <;> first | exact .inl ⟨_, rfl⟩ | exact .inr ⟨rfl, fun _ => rfl⟩
theorem v_half : ∀ us E Q, us.length + 1 = 5 → vsp_half us E Q → bodyI V_half 148 7 m_HalfPlane_init us E Q := by
  rintro us E Q hl (⟨h, rfl, z, q⟩ | ⟨a, b, c, d, w, rfl, na, nb, nc, td, hf, x⟩)
  · refine ⟨rfl, zs rfl, zs rfl, zs rfl, zs rfl, _, rfl, ?_⟩
    refine ⟨_, rfl, ?_⟩
    refine cV_isratio rfl ⟨_, rfl, ?_⟩
    rw [rat_ru z.p.1]
    refine iteF ?_
    refine ⟨_, rfl, ?_⟩
    refine cV_isratio rfl ⟨_, rfl, ?_⟩
    rw [rat_ru z.q.1]
    refine iteF ?_
    refine ⟨_, rfl, ?_⟩
    refine cV_isratio rfl ⟨_, rfl, ?_⟩
    rw [rat_ru z.r.1]
    refine iteF ?_
    obtain ⟨p, q', r, st⟩ := h
    have fin : vSs V_half (tlS (tlS m_HalfPlane_init)) [.ob 148 [] [], .fz (ru p), .fz (ru q'), .fz (ru r), .fz (.bl st), .fz (.str "r"), .fz (ru r)] (kvI 148 E Q) := by
      refine ⟨rfl, rfl, rfl, rfl, by decide, ?_⟩
      refine ⟨rfl, rfl, rfl, rfl, by decide, ?_⟩
      refine ⟨rfl, rfl, rfl, rfl, by decide, ?_⟩
      refine ⟨rfl, rfl, rfl, rfl, by decide, ?_⟩
      refine ⟨rfl, ?_⟩
      refine cV1 rfl ⟨p, q', r, rfl, z.p, z.q, z.r, ?_⟩
      refine ⟨rfl, ?_⟩
      exact ⟨rfl, rfl, by decide, _, _, rfl, q⟩
    cases st with
    | true => exact ⟨false, rfl, iteF fin⟩
    | false => exact ⟨true, rfl, false, rfl, iteF fin⟩
  · refine ⟨rfl, zs rfl, zs rfl, zs rfl, zs rfl, _, rfl, ?_⟩
    refine ⟨_, rfl, ?_⟩
    refine cV_isratio na ⟨_, rfl, ?_⟩
    unfold hfault at hf
    cases ca : (ratU a).isSome with
    | false =>
      rw [ca] at hf
      cases hf
      exact iteT (raise_we rfl (by decide) (fun E Q h => h) x)
    | true =>
      rw [ca, if_pos rfl] at hf
      refine iteF ?_
      refine ⟨_, rfl, ?_⟩
      refine cV_isratio nb ⟨_, rfl, ?_⟩
      cases cb : (ratU b).isSome with
      | false =>
        rw [cb] at hf
        cases hf
        exact iteT (raise_we rfl (by decide) (fun E Q h => h) x)
      | true =>
        rw [cb, if_pos rfl] at hf
        refine iteF ?_
        refine ⟨_, rfl, ?_⟩
        refine cV_isratio nc ⟨_, rfl, ?_⟩
        cases cc : (ratU c).isSome with
        | false =>
          rw [cc] at hf
          cases hf
          exact iteT (raise_we rfl (by decide) (fun E Q h => h) x)
        | true =>
          rw [cc, if_pos rfl] at hf
          refine iteF ?_
          rcases isbl_or (d := d) with ⟨b', rfl⟩ | ⟨e1, e2⟩
          · cases hf
          · rw [e1] at hf
            cases hf
            refine ⟨true, ?_, true, ?_, iteT (raise_we rfl (by decide) (fun E Q h => h) x)⟩
            · cases d <;> first | rfl | cases e1
            · cases d <;> first | rfl | cases e1
end VK
set_option exponentiation.threshold 9000
namespace VK
open PySem PySem.Spec L2 DL LW VL VW
def vsp_told : VSp := fun us _ Q => ∃ s a b c d, us = [s] ∧ seqU s = some [a, b, c, d] ∧ niU a = true ∧ niU b = true ∧ niU c = true ∧ tdU d = true ∧
  ((∃ h, [a, b, c, d] = [ru h.p, ru h.q, ru h.r, .bl h.st] ∧ Hz 200 h ∧ Q (.lst [.bl true, mdU h])) ∨ ∃ w, hfault a b c d = some w ∧ Q (.lst [.bl false, .str w]))
abbrev V_told : VM := VM.of [(0, .cls), (147, ve_w), (148, .cla (some (4, vsp_half, [.bl false])))] [] [(147, 0, true), (147, 147, true)] [(147, "what", ())] [] [] [] []
theorem v_told : ∀ us E Q, us.length = 1 → vsp_told us E Q → bodyV V_told 3 m_law_told17 us E Q := by
  rintro us E Q hl ⟨s, a, b, c, d, rfl, hs, na, nb, nc, td, q⟩
  have main : ∀ s, (s = .tup [a, b, c, d] ∨ s = .lst [a, b, c, d]) → bodyV V_told 3 m_law_told17 [s] E Q := by
    rintro s (rfl | rfl) <;>
    · refine ⟨by decide, by decide, _, rfl, _, rfl, _, rfl, _, rfl, ?_⟩
      rcases q with ⟨h, e, z, q⟩ | ⟨w, hf, q⟩
      · simp only [List.cons.injEq, and_true] at e
        obtain ⟨rfl, rfl, rfl, rfl⟩ := e
        refine ⟨rfl, ?_⟩
        change vsp_half [ru h.p, ru h.q, ru h.r, .bl h.st] _ _
        exact Or.inl ⟨h, rfl, z, zs rfl, q⟩
      · refine ⟨rfl, ?_⟩
        change vsp_half [a, b, c, d] _ _
        refine Or.inr ⟨a, b, c, d, w, rfl, na, nb, nc, td, hf, ?_⟩
        refine ⟨rfl, rfl, (show 2 < 3 by decide), rfl, true, rfl, fun _ => ?_, fun z => by cases z⟩
        exact ⟨rfl, rfl, List.cons_ne_nil _ _, _, rfl, zs rfl, q⟩
  cases s <;> first | (cases hs; done) | (cases hs; first | exact main _ (.inl rfl) | exact main _ (.inr rfl))
def oddU (k : Int) (u : U) : Prop := tdU u = true ∧ niU u = true ∧ ((k = 3 ∧ isBlU u = false) ∨ (k ≠ 3 ∧ (ratU u).isSome = false))
def vsp_odd : VSp := fun us _ Q => ∃ k : Int, us = [.hand, .int k] ∧ ∀ u, oddU k u → Q u
def oddL : List U := [.non, .int 1, .bl true, .lst [.int 1, .int 2], .tup [.int 2, .int 4], .tup [.int 1, .int 0], .tup [.int 1, .int (-2)], .tup [.bl true, .int 1], .tup [.int 1, .bl true], .str "1", .tup [.int 1, .int 1, .int 1], .tup [.int 1], .tup [], .tup [.int 0, .int 2], .tup [.str "1", .int 1]]
abbrev V_odd : VM := VM.fns [(49, .fn 2 vsp_pick [])]
theorem v_odd : ∀ us E Q, us.length = 2 → vsp_odd us E Q → bodyV V_odd 3 m_law_odd17 us E Q := by
  rintro us E Q hl ⟨k, rfl, q⟩
  refine ⟨_, eq_int _ _, ?_⟩
  by_cases c : k = 3
  · rw [decide_eq_true c]
    refine iteT ?_
    refine vs_ret [some .hand, some (.int k), none] rfl ?_
    refine ⟨zs rfl, zs rfl, ?_⟩
    refine cV1 rfl ⟨[.int 0, .int 1, .non, .str "True", .tup [.bl true], .int 2], rfl, by decide, by decide, fun x hx => q x ?_⟩
    simp only [List.mem_cons, List.not_mem_nil, or_false] at hx
    rcases hx with rfl | rfl | rfl | rfl | rfl | rfl <;> exact ⟨rfl, rfl, .inl ⟨c, rfl⟩⟩
  · rw [decide_eq_false c]
    refine iteF ?_
    refine ⟨zs rfl, zs rfl, zs rfl, zs rfl, zs rfl, zs rfl, zs rfl, zs rfl, zs rfl, zs rfl, zs rfl, zs rfl, ?_⟩
    show vSs V_odd (tlS (tlS m_law_odd17)) [.fz .hand, .fz (.int k), .ow oddL] (kvB E Q)
    refine cV1 rfl ⟨oddL, rfl, by decide, by decide, fun x hx => q x ?_⟩
    simp only [oddL, List.mem_cons, List.not_mem_nil, or_false] at hx
    rcases hx with rfl | rfl | rfl | rfl | rfl | rfl | rfl | rfl | rfl | rfl | rfl | rfl | rfl | rfl | rfl <;> exact ⟨rfl, rfl, .inr ⟨c, rfl⟩⟩
end VK
set_option exponentiation.threshold 9000
namespace VK
open PySem PySem.Spec L2 DL LW VL VW
def b_ref : Sms := .cons (.ifs (.cmp .Eq (.call 21 (.cons (.var 0) (.cons (.int 3) .nil))) (.int 0)) (.cons (.setS (.var 2) (.var 5) (.call 158 (.cons (.var 0) (.cons (.var 5) .nil)))) (.cons (.expr (.mth .append (.var 4) (.cons (.ix (.var 3) (.var 5)) .nil))) .nil)) .nil) .nil
def wordsL : List U := [.str "p", .str "q", .str "r", .str "strict"]
abbrev V_ref : VM := VM.fns [(21, ve_draw), (65, .fn 1 vsp_told []), (158, .fn 2 vsp_odd [])]
theorem zl {n : Nat} (h : n ≤ 100) : n ≤ sizeLine := by rw [sizeLine_eq]; omega
theorem turn_ref {i : Nat} {w : Str} {us due : List U} {hf : U} {K : KV} (hi : i < 4) (hw : atI wordsL i = some (.str w)) (ul : us.length = 4) (dl : due.length ≤ 4)
    (h0 : K.nx [.fz .hand, .fz hf, .ow us, .ow wordsL, .ow due, .fz (.int i), .no])
    (h1 : ∀ u, oddU i u → K.nx [.fz .hand, .fz hf, .ow (us.set i u), .ow wordsL, .ow (due ++ [.str w]), .fz (.int i), .no]) :
    vSs V_ref b_ref [.fz .hand, .fz hf, .ow us, .ow wordsL, .ow due, .fz (.int i), .no] K := by
  refine cV_draw (k := 3) (by decide) (by decide) fun v v0 v1 => ⟨_, eq_int _ _, ?_⟩
  by_cases c : v = 0
  · rw [decide_eq_true c]
    refine iteT ?_
    refine ⟨rfl, ?_⟩
    refine cV1 rfl ⟨i, rfl, fun u hu => ?_⟩
    refine ⟨i, ?_, ?_⟩
    · rw [ul]
      exact ixN_nat hi
    · refine ⟨rfl, _, hw, ?_⟩
      exact ⟨zl (by omega), h1 u hu⟩
  · rw [decide_eq_false c]
    exact iteF h0
theorem rat_odd {k : Int} {u : U} (h : oddU k u) (n : k ≠ 3) : (ratU u).isSome = false := by
  rcases h.2.2 with ⟨a, _⟩ | ⟨_, b⟩
  · exact absurd a n
  · exact b
def LeafR (h : HalfR) (us due : List U) : Prop := ∃ a b c d, us = [a, b, c, d] ∧ niU a = true ∧ niU b = true ∧ niU c = true ∧ tdU d = true ∧
  ((due = [] ∧ us = [ru h.p, ru h.q, ru h.r, .bl h.st]) ∨ ∃ w r, due = .str w :: r ∧ hfault a b c d = some w ∧ eqU (.lst due) (.lst []) = some false ∧ eqU (.str w) (.str w) = some true ∧ atI due 0 = some (.str w))
def Pt (j : Int) (o x : U) (f : Bool) : Prop := match f with
  | true => oddU j x
  | false => x = o
def hfW (f0 f1 f2 f3 : Bool) : Option Str := if (!f0) = true then (if (!f1) = true then (if (!f2) = true then (if (!f3) = true then none else some "strict") else some "r") else some "q") else some "p"
def duL (f0 f1 f2 f3 : Bool) : List U := (if f0 = true then [.str "p"] else []) ++ ((if f1 = true then [.str "q"] else []) ++ ((if f2 = true then [.str "r"] else []) ++ (if f3 = true then [.str "strict"] else [])))
def InvR (h : HalfR) (k : Nat) (us due : List U) : Prop := ∃ a b c d f0 f1 f2 f3, us = [a, b, c, d] ∧ due = duL f0 f1 f2 f3 ∧ Pt 0 (ru h.p) a f0 ∧ Pt 1 (ru h.q) b f1 ∧ Pt 2 (ru h.r) c f2 ∧ Pt 3 (.bl h.st) d f3 ∧ (k ≤ 0 → f0 = false) ∧ (k ≤ 1 → f1 = false) ∧ (k ≤ 2 → f2 = false) ∧ (k ≤ 3 → f3 = false)
theorem Pt.n {j : Int} {o x : U} {f : Bool} (p : Pt j o x f) (h : niU o = true) : niU x = true := by
  cases f with
  | true => exact (p : oddU j x).2.1
  | false => rw [show x = _ from p]; exact h
theorem Pt.t {j : Int} {o x : U} {f : Bool} (p : Pt j o x f) (h : tdU o = true) : tdU x = true := by
  cases f with
  | true => exact (p : oddU j x).1
  | false => rw [show x = _ from p]; exact h
theorem Pt.rat {j : Int} {o x : U} {f : Bool} (p : Pt j o x f) (n : j ≠ 3) (h : (ratU o).isSome = true) : (ratU x).isSome = !f := by
  cases f with
  | true => exact rat_odd (p : oddU j x) n
  | false => rw [show x = _ from p]; exact h
theorem Pt.bl {o : Bool} {x : U} {f : Bool} (p : Pt 3 (.bl o) x f) : isBlU x = !f := by
  cases f with
  | true =>
    have q : oddU 3 x := p
    rcases q.2.2 with ⟨_, b⟩ | ⟨a, _⟩
    · exact b
    · exact absurd rfl a
  | false => rw [show x = _ from p]; rfl
theorem Pt.eq {j : Int} {o x : U} (p : Pt j o x false) : x = o := by
  exact p
theorem leaf_of {h : HalfR} {us due : List U} (z : Hz 42 h) (l : InvR h 4 us due) : LeafR h us due := by
  obtain ⟨a, b, c, d, f0, f1, f2, f3, rfl, rfl, pa, pb, pc, pd, _⟩ := l
  have ra := pa.rat (by decide) (by rw [rat_ru z.p.1]; rfl)
  have rb := pb.rat (by decide) (by rw [rat_ru z.q.1]; rfl)
  have rc := pc.rat (by decide) (by rw [rat_ru z.r.1]; rfl)
  have rd := pd.bl
  refine ⟨a, b, c, d, rfl, pa.n rfl, pb.n rfl, pc.n rfl, pd.t rfl, ?_⟩
  have hf : hfault a b c d = hfW f0 f1 f2 f3 := by
    unfold hfault
    rw [ra, rb, rc, rd]
    rfl
  cases f0 with
  | true => exact .inr ⟨"p", _, rfl, hf, by cases f1 <;> cases f2 <;> cases f3 <;> decide +kernel, by decide +kernel, by cases f1 <;> cases f2 <;> cases f3 <;> rfl⟩
  | false =>
    cases f1 with
    | true => exact .inr ⟨"q", _, rfl, hf, by cases f2 <;> cases f3 <;> decide +kernel, by decide +kernel, by cases f2 <;> cases f3 <;> rfl⟩
    | false =>
      cases f2 with
      | true => exact .inr ⟨"r", _, rfl, hf, by cases f3 <;> decide +kernel, by decide +kernel, by cases f3 <;> rfl⟩
      | false =>
        cases f3 with
        | true => exact .inr ⟨"strict", _, rfl, hf, by decide +kernel, by decide +kernel, rfl⟩
        | false => exact .inl ⟨rfl, by rw [pa.eq, pb.eq, pc.eq, pd.eq]⟩
def vsp_refused : VSp := fun us _ Q => ∃ h, us = [.hand, uhf h] ∧ Hz 42 h ∧ Q (.bl true)
theorem v_refused : ∀ us E Q, us.length = 2 → vsp_refused us E Q → bodyV V_ref 7 m_law_refused17 us E Q := by
  rintro us E Q hl ⟨h, rfl, z, q⟩
  refine ⟨_, rfl, ?_⟩
  show vSs V_ref (tlS m_law_refused17) [.fz .hand, .fz (uhf h), .ow [ru h.p, ru h.q, ru h.r, .bl h.st], .no, .no, .no, .no] (kvB E Q)
  refine ⟨zs rfl, ?_⟩
  refine ⟨zs rfl, ?_⟩
  show vSs V_ref (tlS (tlS (tlS m_law_refused17))) [.fz .hand, .fz (uhf h), .ow [ru h.p, ru h.q, ru h.r, .bl h.st], .ow wordsL, .ow [], .no, .no] (kvB E Q)
  have fin : ∀ us due x, LeafR h us due → vSs V_ref (tlS (tlS (tlS (tlS m_law_refused17)))) [.fz .hand, .fz (uhf h), .ow us, .ow wordsL, .ow due, x, .no] (kvB E Q) := by
    rintro us due x ⟨a, b, c, d, rfl, na, nb, nc, td, l⟩
    rcases l with ⟨rfl, e⟩ | ⟨w, r, rfl, hf, fr, er, at0⟩
    · refine cV1 rfl ⟨_, a, b, c, d, rfl, rfl, na, nb, nc, td, .inl ⟨h, e, z.up (by decide), ?_⟩⟩
      refine ⟨zs rfl, true, rfl, iteT ?_⟩
      exact ⟨_, rfl, _, rfl, q⟩
    · refine cV1 rfl ⟨_, a, b, c, d, rfl, rfl, na, nb, nc, td, .inr ⟨w, hf, ?_⟩⟩
      refine ⟨zs rfl, false, fr, iteF ?_⟩
      exact ⟨_, rfl, _, rfl, _, rfl, _, at0, true, er, q⟩
  refine ⟨rfl, sml_of (by decide) (by decide), ?_⟩
  refine rng_loop (n := 4) (fun k ρ => ∃ us due x, ρ = [.fz .hand, .fz (uhf h), .ow us, .ow wordsL, .ow due, x, .no] ∧ InvR h k us due) ?_ ?_ ⟨_, [], .no, rfl, _, _, _, _, false, false, false, false, rfl, rfl, rfl, rfl, rfl, rfl, fun _ => rfl, fun _ => rfl, fun _ => rfl, fun _ => rfl⟩
  · rintro k hk ρ ⟨us, due, x, rfl, a, b, c, d, f0, f1, f2, f3, rfl, rfl, pa, pb, pc, pd, g0, g1, g2, g3⟩ nx ct bk go
    have dl : (duL f0 f1 f2 f3).length ≤ 4 := by cases f0 <;> cases f1 <;> cases f2 <;> cases f3 <;> decide
    have up : InvR h (k + 1) [a, b, c, d] (duL f0 f1 f2 f3) := ⟨a, b, c, d, f0, f1, f2, f3, rfl, rfl, pa, pb, pc, pd, fun q => g0 (by omega), fun q => g1 (by omega), fun q => g2 (by omega), fun q => g3 (by omega)⟩
    have h4 : k = 0 ∨ k = 1 ∨ k = 2 ∨ k = 3 := by omega
    rcases h4 with rfl | rfl | rfl | rfl
    · refine turn_ref (i := 0) (w := "p") (by decide) rfl rfl dl (go _ ⟨_, _, _, rfl, up⟩) fun u hu => go _ ⟨_, _, _, rfl, u, b, c, d, true, f1, f2, f3, rfl, ?_, hu, pb, pc, pd, fun q => by omega, fun q => g1 (by omega), fun q => g2 (by omega), fun q => g3 (by omega)⟩
      rw [g0 (by omega), g1 (by omega), g2 (by omega), g3 (by omega)]
      rfl
    · refine turn_ref (i := 1) (w := "q") (by decide) rfl rfl dl (go _ ⟨_, _, _, rfl, up⟩) fun u hu => go _ ⟨_, _, _, rfl, a, u, c, d, f0, true, f2, f3, rfl, ?_, pa, hu, pc, pd, fun q => by omega, fun q => by omega, fun q => g2 (by omega), fun q => g3 (by omega)⟩
      rw [g1 (by omega), g2 (by omega), g3 (by omega)]
      cases f0 <;> rfl
    · refine turn_ref (i := 2) (w := "r") (by decide) rfl rfl dl (go _ ⟨_, _, _, rfl, up⟩) fun u hu => go _ ⟨_, _, _, rfl, a, b, u, d, f0, f1, true, f3, rfl, ?_, pa, pb, hu, pd, fun q => by omega, fun q => by omega, fun q => by omega, fun q => g3 (by omega)⟩
      rw [g2 (by omega), g3 (by omega)]
      cases f0 <;> cases f1 <;> rfl
    · refine turn_ref (i := 3) (w := "strict") (by decide) rfl rfl dl (go _ ⟨_, _, _, rfl, up⟩) fun u hu => go _ ⟨_, _, _, rfl, a, b, c, u, f0, f1, f2, true, rfl, ?_, pa, pb, pc, hu, fun q => by omega, fun q => by omega, fun q => by omega, fun q => by omega⟩
      rw [g3 (by omega)]
      cases f0 <;> cases f1 <;> cases f2 <;> rfl
  · rintro ρ ⟨us, due, x, rfl, l⟩
    exact fin _ _ _ (leaf_of z l)
end VK
set_option exponentiation.threshold 4000
namespace VW
open PySem PySem.Spec L2 DL LW VL
def Szn (n : Nat) (p : Rt) : Prop := Red p ∧ Sz n p
structure HoldN (n : Nat) (h : HoldR) : Prop where
  x : h.a.natAbs < 2 ^ 64
  y : h.b.natAbs < 2 ^ 64
  ab : h.a < h.b
  r0 : 1 ≤ h.br
  r1 : h.br ≤ 20
  sh : Szn n h.sh
  s0 : 0 ≤ h.sh.1
  s1 : h.sh.1 ≤ h.sh.2
  dk : Szn n h.dk
  d0 : 0 < h.dk.1
def inR (h : HoldR) : Bool := decide (-1000 ≤ h.a) && decide (h.b ≤ 1000)
def HoldsN (n : Nat) (hs : List HoldR) : Prop := (∀ h ∈ hs, HoldN n h) ∧ Joined hs ∧ 1 ≤ hs.length ∧ hs.length ≤ 6
end VW
set_option exponentiation.threshold 4000
namespace VW
open PySem PySem.Spec L2 DL LW VL
def MarkN (n : Nat) (a b : Int) (m : Rt × Rt) : Prop := Szn n m.1 ∧ Szn n m.2 ∧ a * m.1.2 ≤ m.1.1 ∧ m.1.1 ≤ b * m.1.2 ∧ 0 ≤ m.2.1
end VW
set_option exponentiation.threshold 4000
namespace VW
open PySem PySem.Spec L2 DL LW VL
def DoorN (b n : Nat) (d : Int × Rt) : Prop := 0 ≤ d.1 ∧ d.1 < n ∧ Szn b d.2 ∧ 0 ≤ d.2.1
def PortIn (n : Nat) (h : HoldR) (p : Int × Rt × Rt) : Prop := Szn n p.2.1 ∧ h.a * p.2.1.2 ≤ p.2.1.1 ∧ p.2.1.1 ≤ h.b * p.2.1.2 ∧ Szn n p.2.2 ∧ 0 ≤ p.2.2.1 ∧ p.2.2.1 * h.dk.2 ≤ h.dk.1 * p.2.2.2
def PortN (n : Nat) (hs : List HoldR) (p : Int × Rt × Rt) : Prop := 0 ≤ p.1 ∧ ∃ h, hs[p.1.toNat]? = some h ∧ PortIn n h p
structure Good (n : Nat) (s : ShipR) : Prop where
  hs : HoldsN n s.hs
  ms : ∃ f l, s.hs.head? = some f ∧ s.hs.getLast? = some l ∧ ∀ m ∈ s.ms, MarkN n f.a l.b m
  m1 : 1 ≤ s.ms.length
  m4 : s.ms.length ≤ 4
  ow : Szn n s.ow
  w0 : 0 ≤ s.ow.1
  om : Szn n s.om
  tl : s.ts.length + 1 = s.hs.length
  tz : ∀ t ∈ s.ts, Szn n t
  d6 : s.ds.length ≤ 6
  ds : ∀ d ∈ s.ds, DoorN n s.ts.length d
  p4 : s.ps.length ≤ 4
  ps : ∀ p ∈ s.ps, PortN n s.hs p
  sl : Szn n s.sl
  s0 : 0 ≤ s.sl.1
  tp : ∀ (k : Nat) (t : Rt) (h h2 : HoldR), s.ts[k]? = some t → s.hs[k]? = some h → s.hs[k + 1]? = some h2 → 0 ≤ t.1 ∧ t.1 * h.dk.2 ≤ h.dk.1 * t.2 ∧ t.1 * h2.dk.2 ≤ h2.dk.1 * t.2
  dt : ∀ d ∈ s.ds, ∃ t, s.ts[d.1.toNat]? = some t ∧ d.2.1 * t.2 < t.1 * d.2.2
end VW
set_option exponentiation.threshold 4000
namespace VW
open PySem PySem.Spec L2 DL LW VL
theorem val_mulP {p q : Rt} (hp : 0 < p.2) (hq : 0 < q.2) : val (mulP p q) = val p * val q := by
  unfold mulP
  rw [val_lowP (den_mul hp hq)]
  unfold val
  rw [Rat.divInt_mul_divInt]
def mk (x : Rt) (k : Int) : Rt := mulP x (k, 1)
def ad (x : Rt) (c : Int) : Rt := sumP x (c, 1)
end VW
namespace VL
open PySem PySem.Spec L2 DL LW
abbrev ve_minus : VG := .fn 2 (vsp_two fun p q => ru (subP p q)) []
section
variable {cl : Nat → Addr} {g : Nat}
theorem gk_minus : VGok cl g (.fn 2 sp_minus []) ve_minus := ⟨rfl, fun _ _ => .nil, br_two fun _ _ _ _ => rep_ru _⟩
end
section
variable {E : EU} {Q : QU}
theorem cV_minus {x y : Int × Int} (h1 : Sz 3000 x) (h2 : Sz 3000 y) (q : Q (ru (subP x y))) : callV ve_minus 2 [ru x, ru y] E Q := ⟨by decide, by decide, rfl, x, y, rfl, h1, h2, q⟩
end
end VL
set_option exponentiation.threshold 9000
namespace VK
open PySem PySem.Spec L2 DL LW VL VW
theorem val_subP' {p q : Rt} (hp : 0 < p.2) (hq : 0 < q.2) : val (subP p q) = val p - val q := by
  unfold subP
  rw [val_lowP (den_mul hp hq)]
  unfold val
  rw [Rat.divInt_sub_divInt _ _ (Int.ne_of_gt hp) (Int.ne_of_gt hq)]
def ngk (p : Rt) : Rt := (-p.1, p.2)
def vsp_neg : VSp := fun us _ Q => ∃ p, us = [ru p] ∧ Q (ru (ngk p))
theorem v_neg : ∀ us E Q, us.length = 1 → vsp_neg us E Q → bodyV (VM.fns []) 1 m_negative us E Q := by
  rintro us E Q hl ⟨p, rfl, q⟩
  exact ⟨.int p.1, rfl, .int p.2, rfl, zs rfl, q⟩
abbrev ve_neg : VG := .fn 1 vsp_neg []
def opp (h : HalfR) : HalfR := ⟨ngk h.p, ngk h.q, ngk h.r, !h.st⟩
def clo (h : HalfR) : HalfR := ⟨h.p, h.q, h.r, false⟩
theorem zn_ngk {n : Nat} {p : Rt} (z : Zn n p) : Zn n (ngk p) := by
  obtain ⟨⟨a, b⟩, c, d, e⟩ := z
  refine ⟨⟨a, ?_⟩, ?_, d, e⟩
  · show Nat.gcd (-p.1).natAbs p.2.natAbs = 1
    rw [Int.natAbs_neg]; exact b
  · show (-p.1).natAbs < _
    rw [Int.natAbs_neg]; exact c
theorem hz_opp {n : Nat} {h : HalfR} (z : Hz n h) : Hz n (opp h) := ⟨zn_ngk z.p, zn_ngk z.q, zn_ngk z.r⟩
theorem hz_clo {n : Nat} {h : HalfR} (z : Hz n h) : Hz n (clo h) := ⟨z.p, z.q, z.r⟩
abbrev ve_half : VG := .cla (some (4, vsp_half, [.bl false]))
def vsp_opp : VSp := fun us _ Q => ∃ h, us = [mdU h] ∧ Hz 200 h ∧ Q (mdU (opp h))
abbrev V_opp : VM := VM.of [(12, ve_neg), (148, ve_half)] hfFl [] [] [] [] [] []
theorem v_opp : ∀ us E Q, us.length = 1 → vsp_opp us E Q → bodyV V_opp 1 m_HalfPlane_opposite us E Q := by
  rintro us E Q hl ⟨h, rfl, z, q⟩
  refine vs_ret [some (mdU h)] rfl ?_
  refine ⟨by decide, by decide, ?_⟩
  refine ⟨rfl, _, rfl, ?_⟩
  refine cV1 rfl ⟨h.p, rfl, ?_⟩
  refine ⟨rfl, _, rfl, ?_⟩
  refine cV1 rfl ⟨h.q, rfl, ?_⟩
  refine ⟨rfl, _, rfl, ?_⟩
  refine cV1 rfl ⟨h.r, rfl, ?_⟩
  refine ⟨rfl, _, rfl, rfl, ?_⟩
  change vsp_half [ru (ngk h.p), ru (ngk h.q), ru (ngk h.r), .bl (!h.st)] _ _
  exact Or.inl ⟨opp h, rfl, hz_opp z, q⟩
def vsp_clo : VSp := fun us _ Q => ∃ h, us = [mdU h] ∧ Hz 200 h ∧ Q (mdU (clo h))
abbrev V_clo : VM := VM.of [(148, ve_half)] hfFl [] [] [] [] [] []
theorem v_clo : ∀ us E Q, us.length = 1 → vsp_clo us E Q → bodyV V_clo 1 m_HalfPlane_closed us E Q := by
  rintro us E Q hl ⟨h, rfl, z, q⟩
  refine vs_ret [some (mdU h)] rfl ?_
  refine ⟨by decide, by decide, ?_⟩
  refine ⟨rfl, _, rfl, rfl, _, rfl, rfl, _, rfl, rfl, ?_⟩
  change vsp_half [ru h.p, ru h.q, ru h.r, .bl false] _ _
  exact Or.inl ⟨clo h, rfl, hz_clo z, q⟩
def excR (h : HalfR) (x y : Rt) : Rt := subP (sumP (mulP h.p x) (mulP h.q y)) h.r
def vsp_exc : VSp := fun us _ Q => ∃ h s x y, us = [mdU h, s] ∧ seqU s = some [ru x, ru y] ∧ Hz 200 h ∧ Zn 200 x ∧ Zn 200 y ∧ Q (ru (excR h x y))
abbrev V_exc : VM := VM.of [(8, ve_plus), (9, ve_minus), (10, ve_times)] hfFl [] [] [] [] [] []
theorem v_exc : ∀ us E Q, us.length = 2 → vsp_exc us E Q → bodyV V_exc 4 m_HalfPlane_excess_at us E Q := by
  rintro us E Q hl ⟨h, s, x, y, rfl, hs, z, zx, zy, q⟩
  obtain ⟨r1, r2, r3⟩ := z
  refine ⟨rfl, [ru x, ru y], _, hs, rfl, ?_⟩
  refine vs_ret [some (mdU h), some s, some (ru x), some (ru y)] rfl ?_
  have m1 := zn_mul r1 zx
  have m2 := zn_mul r2 zy
  refine ⟨rfl, _, rfl, ?_⟩
  refine cV_times (r1.2.mono (by decide)) (zx.2.mono (by decide)) ?_
  refine ⟨rfl, _, rfl, ?_⟩
  refine cV_times (r2.2.mono (by decide)) (zy.2.mono (by decide)) ?_
  refine cV_plus (m1.2.mono (by decide)) (m2.2.mono (by decide)) ?_
  refine ⟨rfl, _, rfl, ?_⟩
  exact cV_minus ((zn_add m1 m2).2.mono (by decide)) (r3.2.mono (by decide)) q
def reaR (h : HalfR) : Str := if h.p.1 ≠ 0 ∨ h.q.1 ≠ 0 then "line" else (if 0 < h.r.1 ∨ (h.r.1 = 0 ∧ h.st = true) then "none" else "all")
def vsp_rea : VSp := fun us _ Q => ∃ h, us = [mdU h] ∧ Hz 200 h ∧ Q (.str (reaR h))
theorem sg {a x y : Int} {F : Rat} (F0 : 0 < F) (y0 : 0 < y) (k : (a : Rat) * (y : Rat) = F * (x : Rat)) : (a = 0 ↔ x = 0) ∧ (0 < a ↔ 0 < x) := by
  have yq : (0 : Rat) < (y : Rat) := Rat.intCast_pos.mpr y0
  have tri : ∀ {u v : Rat}, 0 < u → (0 < v → 0 < u * v) ∧ (v < 0 → u * v < 0) := fun {u v} hu => ⟨fun h => Rat.mul_pos hu h, fun h => by
    have := Rat.mul_pos hu (show 0 < -v by grind)
    grind⟩
  have t1 := @tri (y : Rat) (a : Rat) yq
  have t2 := @tri F (x : Rat) F0
  have e : (y : Rat) * (a : Rat) = F * (x : Rat) := by rw [Rat.mul_comm]; exact k
  rw [e] at t1
  have pa : (0 < a ↔ (0 : Rat) < (a : Rat)) := Rat.intCast_pos.symm
  have px : (0 < x ↔ (0 : Rat) < (x : Rat)) := Rat.intCast_pos.symm
  have na : (a < 0 ↔ (a : Rat) < 0) := by rw [← Rat.intCast_zero]; exact Rat.intCast_lt_intCast.symm
  have nx : (x < 0 ↔ (x : Rat) < 0) := by rw [← Rat.intCast_zero]; exact Rat.intCast_lt_intCast.symm
  have a0 : a = 0 → F * (x : Rat) = 0 := fun h => by rw [← e, h]; simp
  have x0 : x = 0 → F * (x : Rat) = 0 := fun h => by rw [h]; simp
  have a1 : 0 < a → 0 < F * (x : Rat) := fun h => t1.1 (pa.mp h)
  have x1 : 0 < x → 0 < F * (x : Rat) := fun h => t2.1 (px.mp h)
  have a2 : a < 0 → F * (x : Rat) < 0 := fun h => t1.2 (na.mp h)
  have x2 : x < 0 → F * (x : Rat) < 0 := fun h => t2.2 (nx.mp h)
  generalize F * (x : Rat) = z at a0 x0 a1 x1 a2 x2
  clear t1 t2 tri pa px na nx e k
  rcases Int.lt_trichotomy a 0 with h | h | h <;> rcases Int.lt_trichotomy x 0 with g | g | g <;> first | exact ⟨by omega, by omega⟩ | (exfalso; grind)
theorem dm {a b : Int} (h : 0 < b) : Rat.divInt a b * (b : Rat) = (a : Rat) := by
  rw [Rat.divInt_eq_div]
  exact Rat.div_mul_cancel (by have := Rat.intCast_pos.mpr h; grind)
theorem row_sgn {p q r : Rt} (hp : 0 < p.2) (hq : 0 < q.2) (hr : 0 < r.2) : ((rowI p q r).a = 0 ↔ p.1 = 0) ∧ ((rowI p q r).b = 0 ↔ q.1 = 0) ∧ ((rowI p q r).c = 0 ↔ r.1 = 0) ∧ (0 < (rowI p q r).c ↔ 0 < r.1) := by
  obtain ⟨F, F0, e1, e2, e3⟩ := row_scale hp hq hr
  have k : ∀ {a : Int} {x : Rt}, 0 < x.2 → (a : Rat) = F * val x → (a = 0 ↔ x.1 = 0) ∧ (0 < a ↔ 0 < x.1) := fun {a x} hx e => sg F0 hx (by rw [e, Rat.mul_assoc]; unfold val; rw [dm hx])
  exact ⟨(k hp e1).1, (k hq e2).1, (k hr e3).1, (k hr e3).2⟩
theorem ne_int (i j : Int) : cmpU .NotEq (.int i) (.int j) = some (!decide (i = j)) := by
  show (VL.eqU (.int i) (.int j)).map (!·) = _
  rw [eq_int]
  rfl
abbrev V_rea : VM := VM.of [] hfFl [] [] [] [] [] []
theorem v_rea : ∀ us E Q, us.length = 1 → vsp_rea us E Q → bodyV V_rea 4 m_HalfPlane_reach us E Q := by
  rintro us E Q hl ⟨h, rfl, z, q⟩
  obtain ⟨s1, s2, s3, s4⟩ := row_sgn z.p.1.1 z.q.1.1 z.r.1.1
  refine ⟨rfl, rfl, _, rfl, _, rfl, ?_⟩
  show vSs V_rea (tlS m_HalfPlane_reach) [.fz (mdU h), .fz (.int (rowI h.p h.q h.r).a), .fz (.int (rowI h.p h.q h.r).b), .fz (.int (rowI h.p h.q h.r).c)] (kvB E Q)
  generalize (rowI h.p h.q h.r).a = a at s1 ⊢
  generalize (rowI h.p h.q h.r).b = b at s2 ⊢
  generalize (rowI h.p h.q h.r).c = c at s3 s4 ⊢
  unfold reaR at q
  refine vs_if0 [some (mdU h), some (.int a), some (.int b), some (.int c)] rfl ?_
  refine ⟨_, ne_int _ _, ?_⟩
  by_cases c1 : a = 0
  · rw [decide_eq_true c1]
    refine ⟨_, ne_int _ _, ?_⟩
    by_cases c2 : b = 0
    · rw [decide_eq_true c2]
      rw [if_neg (fun o => o.elim (fun n => n (s1.mp c1)) (fun n => n (s2.mp c2)))] at q
      refine iteF ?_
      refine vs_ret [some (mdU h), some (.int a), some (.int b), some (.int c)] rfl ?_
      refine ⟨_, rfl, ?_⟩
      by_cases c3 : 0 < c
      · rw [decide_eq_true c3]
        rw [if_pos (.inl (s4.mp c3))] at q
        exact iteT q
      · rw [decide_eq_false c3]
        refine ⟨_, eq_int _ _, ?_⟩
        by_cases c4 : c = 0
        · rw [decide_eq_true c4]
          refine ⟨rfl, _, rfl, h.st, rfl, ?_⟩
          cases e : h.st with
          | true => rw [e, if_pos (.inr ⟨s3.mp c4, rfl⟩)] at q; exact iteT q
          | false => rw [e, if_neg (by rintro (x | ⟨_, x⟩); exact c3 (s4.mpr x); cases x)] at q; exact iteF q
        · rw [decide_eq_false c4]
          rw [if_neg (by rintro (x | ⟨x, _⟩); exact c3 (s4.mpr x); exact c4 (s3.mpr x))] at q
          exact iteF q
    · rw [decide_eq_false c2]
      rw [if_pos (.inr fun x => c2 (s2.mpr x))] at q
      exact iteT q
  · rw [decide_eq_false c1]
    rw [if_pos (.inl fun x => c1 (s1.mpr x))] at q
    exact iteT q
def inR (h : HalfR) (x y : Rt) : Bool := decide (0 < (excR h x y).1) || (decide ((excR h x y).1 = 0) && !h.st)
def vsp_hold : VSp := fun us _ Q => ∃ h s x y, us = [mdU h, s] ∧ seqU s = some [ru x, ru y] ∧ Hz 200 h ∧ Zn 200 x ∧ Zn 200 y ∧ Q (.bl (inR h x y))
theorem fdiv_small {a g : Int} {n : Nat} (gp : 0 < g) (h : a.natAbs < 2 ^ n) : (a.fdiv g).natAbs < 2 ^ n := by
  rw [Int.fdiv_eq_ediv_of_nonneg _ (Int.le_of_lt gp)]
  exact Nat.lt_of_le_of_lt (Int.natAbs_ediv_le_natAbs a g) h
theorem row_small {h : HalfR} (z : Hz 200 h) : (rowI h.p h.q h.r).a.natAbs < 2 ^ 800 ∧ (rowI h.p h.q h.r).b.natAbs < 2 ^ 800 ∧ (rowI h.p h.q h.r).c.natAbs < 2 ^ 800 := by
  have L0 := lcm3_pos z.p.1.1 z.q.1.1 z.r.1.1
  have Lz : (lcm3 h.p.2 h.q.2 h.r.2).natAbs < 2 ^ 600 := by
    unfold lcm3
    rw [Int.natAbs_natCast]
    exact lcm_nat_lt (lcm_nat_lt z.p.2.2.1 z.q.2.2.1) z.r.2.2.1
  unfold rowI
  simp only
  generalize lcm3 h.p.2 h.q.2 h.r.2 = L at L0 Lz ⊢
  obtain ⟨_, _, op⟩ := over_lt z.p.2.1 z.p.1.1 Lz (Int.le_of_lt L0)
  obtain ⟨_, _, oq⟩ := over_lt z.q.2.1 z.q.1.1 Lz (Int.le_of_lt L0)
  obtain ⟨_, _, or'⟩ := over_lt z.r.2.1 z.r.1.1 Lz (Int.le_of_lt L0)
  have g0 : 0 < (if gcd3 (over h.p L) (over h.q L) (over h.r L) = 0 then 1 else gcd3 (over h.p L) (over h.q L) (over h.r L)) := by
    have := @gcd3_nn (over h.p L) (over h.q L) (over h.r L)
    split <;> omega
  generalize (if gcd3 (over h.p L) (over h.q L) (over h.r L) = 0 then 1 else gcd3 (over h.p L) (over h.q L) (over h.r L)) = g at g0
  exact ⟨fdiv_small g0 op, fdiv_small g0 oq, fdiv_small g0 or'⟩
def excI (h : HalfR) (x y : Rt) : Int := (rowI h.p h.q h.r).a * x.1 * y.2 + (rowI h.p h.q h.r).b * y.1 * x.2 - (rowI h.p h.q h.r).c * x.2 * y.2
theorem exc_sgn {h : HalfR} {x y : Rt} (z : Hz 200 h) (zx : Zn 200 x) (zy : Zn 200 y) : (excI h x y = 0 ↔ (excR h x y).1 = 0) ∧ (0 < excI h x y ↔ 0 < (excR h x y).1) := by
  obtain ⟨F, F0, e1, e2, e3⟩ := row_scale z.p.1.1 z.q.1.1 z.r.1.1
  have zm := zn_add (zn_mul z.p zx) (zn_mul z.q zy)
  have ze : Zn _ (excR h x y) := zn_sub zm z.r
  have x0 := Rat.intCast_pos.mpr zx.1.1
  have y0 := Rat.intCast_pos.mpr zy.1.1
  refine sg (F := F * x.2 * y.2) (y := (excR h x y).2) (Rat.mul_pos (Rat.mul_pos F0 x0) y0) ze.1.1 ?_
  have v : val (excR h x y) = val h.p * val x + val h.q * val y - val h.r := by
    unfold excR
    rw [val_subP' zm.1.1 z.r.1.1, val_sumP (zn_mul z.p zx).1.1 (zn_mul z.q zy).1.1, val_mulP z.p.1.1 zx.1.1, val_mulP z.q.1.1 zy.1.1]
  have d : ((excR h x y).1 : Rat) = val (excR h x y) * (excR h x y).2 := (dm ze.1.1).symm
  rw [d, v]
  unfold excI
  have dx : (x.1 : Rat) = val x * x.2 := (dm zx.1.1).symm
  have dy : (y.1 : Rat) = val y * y.2 := (dm zy.1.1).symm
  simp only [Rat.intCast_sub, Rat.intCast_add, Rat.intCast_mul, e1, e2, e3, dx, dy]
  grind
abbrev V_hold : VM := VM.of [] hfFl [] [] [] [] [] []
theorem v_hold : ∀ us E Q, us.length = 2 → vsp_hold us E Q → bodyV V_hold 10 m_HalfPlane_holds_cargo us E Q := by
  rintro us E Q hl ⟨h, s, x, y, rfl, hs, z, zx, zy, q⟩
  obtain ⟨b1, b2, b3⟩ := row_small z
  obtain ⟨t1, t2⟩ := exc_sgn z zx zy
  refine ⟨rfl, rfl, _, rfl, _, rfl, ?_⟩
  refine ⟨rfl, [ru x, ru y], _, hs, rfl, ?_⟩
  show vSs V_hold (tlS (tlS m_HalfPlane_holds_cargo)) [.fz (mdU h), .fz s, .fz (.int (rowI h.p h.q h.r).a), .fz (.int (rowI h.p h.q h.r).b), .fz (.int (rowI h.p h.q h.r).c), .fz (.int x.1), .fz (.int x.2), .fz (.int y.1), .fz (.int y.2), .no] (kvB E Q)
  unfold excI at t1 t2
  unfold inR at q
  generalize (rowI h.p h.q h.r).a = a at b1 t1 t2 ⊢
  generalize (rowI h.p h.q h.r).b = b at b2 t1 t2 ⊢
  generalize (rowI h.p h.q h.r).c = c at b3 t1 t2 ⊢
  have m : ∀ {i j k : Int}, i.natAbs < 2 ^ 800 → j.natAbs < 2 ^ 200 → k.natAbs < 2 ^ 200 → MulB i j ∧ MulB (i * j) k := fun h1 h2 h3 => ⟨w_mulB (w_up h1 (by decide)) (w_up h2 (by decide)), w_mulB (w_up (w_mul h1 h2) (by decide)) (w_up h3 (by decide))⟩
  obtain ⟨m1, m2⟩ := m b1 zx.2.1 zy.2.2.1
  obtain ⟨m3, m4⟩ := m b2 zy.2.1 zx.2.2.1
  obtain ⟨m5, m6⟩ := m b3 zx.2.2.1 zy.2.2.1
  refine vs_set [some (mdU h), some s, some (.int a), some (.int b), some (.int c), some (.int x.1), some (.int x.2), some (.int y.1), some (.int y.2), none] rfl rfl ?_
  refine ⟨m1, m2, m3, m4, m5, m6, ?_⟩
  show vSs V_hold (tlS (tlS (tlS m_HalfPlane_holds_cargo))) [.fz (mdU h), .fz s, .fz (.int a), .fz (.int b), .fz (.int c), .fz (.int x.1), .fz (.int x.2), .fz (.int y.1), .fz (.int y.2), .fz (.int (a * x.1 * y.2 + b * y.1 * x.2 - c * x.2 * y.2))] (kvB E Q)
  generalize a * x.1 * y.2 + b * y.1 * x.2 - c * x.2 * y.2 = e at t1 t2 ⊢
  refine vs_ret [some (mdU h), some s, some (.int a), some (.int b), some (.int c), some (.int x.1), some (.int x.2), some (.int y.1), some (.int y.2), some (.int e)] rfl ?_
  refine ⟨_, rfl, ?_⟩
  by_cases c1 : 0 < e
  · rw [decide_eq_true c1]
    rw [decide_eq_true (t2.mp c1)] at q
    exact q
  · rw [decide_eq_false c1]
    rw [decide_eq_false (fun z => c1 (t2.mpr z))] at q
    refine ⟨_, eq_int _ _, ?_⟩
    by_cases c2 : e = 0
    · rw [decide_eq_true c2]
      rw [decide_eq_true (t1.mp c2)] at q
      exact ⟨rfl, _, rfl, q⟩
    · rw [decide_eq_false c2]
      rw [decide_eq_false (fun z => c2 (t1.mpr z))] at q
      exact q
end VK
set_option exponentiation.threshold 9000
namespace VK
open PySem PySem.Spec L2 DL LW VL VW
theorem eq_bl (a b : Bool) : VL.eqU (.bl a) (.bl b) = some (decide (a = b)) := by
  show some (PyData.eqv (.bool a) (.bool b)) = _
  cases a <;> cases b <;> simp [PyData.eqv]
theorem eq_ru (x y : Rt) : VL.eqU (ru x) (ru y) = some (decide (x = y)) := by
  show some (PyData.eqv (.tuple [.int x.1, .int x.2]) (.tuple [.int y.1, .int y.2])) = _
  obtain ⟨a, b⟩ := x
  obtain ⟨c, d⟩ := y
  simp only [PyData.eqv, PyData.eqvAll, eqv_int]
  congr 1
  by_cases h1 : a = c <;> by_cases h2 : b = d <;> simp [h1, h2]
theorem eq_uro (x y : Row3) : VL.eqU (uro x) (uro y) = some (decide (x = y)) := by
  show some (PyData.eqv (.tuple [.int x.a, .int x.b, .int x.c]) (.tuple [.int y.a, .int y.b, .int y.c])) = _
  obtain ⟨a, b, e⟩ := x
  obtain ⟨c, d, f⟩ := y
  simp only [PyData.eqv, PyData.eqvAll, eqv_int]
  congr 1
  by_cases h1 : a = c <;> by_cases h2 : b = d <;> by_cases h3 : e = f <;> simp [h1, h2, h3]
theorem eq_uhf (x y : HalfR) : VL.eqU (uhf x) (uhf y) = some (decide (x = y)) := by
  have e : ∀ h : HalfR, uPy 9 (uhf h) = some (.tuple [.tuple [.int h.p.1, .int h.p.2], .tuple [.int h.q.1, .int h.q.2], .tuple [.int h.r.1, .int h.r.2], .bool h.st]) := fun h => rfl
  unfold VL.eqU
  rw [e, e]
  obtain ⟨⟨a1, a2⟩, ⟨b1, b2⟩, ⟨c1, c2⟩, s⟩ := x
  obtain ⟨⟨d1, d2⟩, ⟨e1, e2⟩, ⟨f1, f2⟩, t⟩ := y
  have eb : PyData.eqv (.bool s) (.bool t) = decide (s = t) := Option.some.inj (eq_bl s t)
  simp only [PyData.eqv, PyData.eqvAll, eqv_int] at eb ⊢
  simp only [eb]
  congr 1
  by_cases h1 : a1 = d1 <;> by_cases h2 : a2 = d2 <;> by_cases h3 : b1 = e1 <;> by_cases h4 : b2 = e2 <;> by_cases h5 : c1 = f1 <;> by_cases h6 : c2 = f2 <;> by_cases h7 : s = t <;> simp [h1, h2, h3, h4, h5, h6, h7]
theorem ne_of {x y : U} {b : Bool} (h : VL.eqU x y = some b) : cmpU .NotEq x y = some (!b) := by
  show (VL.eqU x y).map (!·) = _
  rw [h]
  rfl
def vsp_truth : VSp := fun us _ Q => ∃ b, us = [.bl b, .bl b] ∧ Q (.bl true)
theorem v_truth : ∀ us E Q, us.length = 2 → vsp_truth us E Q → bodyV (VM.fns []) 2 m_law_is_truth17 us E Q := by
  rintro us E Q hl ⟨b, rfl, q⟩
  refine vs_ret [some (.bl b), some (.bl b)] rfl ?_
  refine ⟨b, rfl, ?_⟩
  cases b with
  | true => exact iteT ⟨_, rfl, q⟩
  | false => exact iteF ⟨_, rfl, q⟩
def vsp_whl : VSp := fun us _ Q => ∃ i, us = [.int i] ∧ Q (.bl true)
theorem v_whl : ∀ us E Q, us.length = 1 → vsp_whl us E Q → bodyV (VM.fns []) 1 m_law_is_whole17 us E Q := by
  rintro us E Q hl ⟨i, rfl, q⟩
  refine vs_ret [some (.int i)] rfl ?_
  refine ⟨true, rfl, ?_⟩
  refine ⟨false, rfl, ?_⟩
  exact q
def vsp_isr : VSp := fun us _ Q => ∃ x, us = [ru x] ∧ Zn 1500 x ∧ Q (.bl true)
abbrev V_isr : VM := VM.fns [(22, .fn 2 vsp_gcd17 []), (151, .fn 1 vsp_whl [])]
theorem v_isr : ∀ us E Q, us.length = 1 → vsp_isr us E Q → bodyV V_isr 1 m_law_is_ratio17 us E Q := by
  rintro us E Q hl ⟨x, rfl, z, q⟩
  refine vs_if0 [some (ru x)] rfl ?_
  have l0 : ∀ {i : Int}, i.natAbs < 2 ^ 1500 → i.natAbs < 2 ^ 8000 := fun h => w_up h (by decide)
  refine ⟨true, rfl, true, rfl, ?_⟩
  refine ⟨ _, ne_int _ _, ?_⟩
  refine iteF ?_
  refine vs_if0 [some (ru x)] rfl ?_
  refine ⟨_, rfl, ?_⟩
  refine cV1 rfl ⟨x.1, rfl, true, rfl, ?_⟩
  refine ⟨_, rfl, ?_⟩
  refine cV1 rfl ⟨x.2, rfl, true, rfl, ?_⟩
  refine ⟨_, rfl, _, rfl, ?_⟩
  rw [decide_eq_false (by have := z.1.1; omega)]
  refine iteF ?_
  refine vs_ret [some (ru x)] rfl ?_
  refine ⟨_, rfl, _, rfl, ?_⟩
  refine cV1 rfl ⟨x.1, x.2, rfl, l0 z.2.1, l0 z.2.2.1, ?_⟩
  refine ⟨_, eq_int _ _, ?_⟩
  rw [z.1.2]
  exact q
def reaL (h : HalfR) : Str := if h.p.1 ≠ 0 ∨ h.q.1 ≠ 0 then "line" else (if h.r.1 < 0 ∨ (h.r.1 = 0 ∧ h.st = false) then "all" else "none")
theorem rea_eq (h : HalfR) : reaL h = reaR h := by
  unfold reaL reaR
  by_cases c : h.p.1 ≠ 0 ∨ h.q.1 ≠ 0
  · rw [if_pos c, if_pos c]
  · rw [if_neg c, if_neg c]
    rcases Int.lt_trichotomy h.r.1 0 with g | g | g
    · rw [if_pos (.inl g), if_neg (by rintro (x | ⟨x, _⟩) <;> omega)]
    · cases e : h.st with
      | true => rw [if_neg (by rintro (x | ⟨_, x⟩); omega; cases x), if_pos (.inr ⟨g, rfl⟩)]
      | false => rw [if_pos (.inr ⟨g, rfl⟩), if_neg (by rintro (x | ⟨_, x⟩); omega; cases x)]
    · rw [if_neg (by rintro (x | ⟨x, _⟩) <;> omega), if_pos (.inl g)]
def vsp_real : VSp := fun us _ Q => ∃ h, us = [uhf h] ∧ Q (.str (reaR h))
theorem v_real : ∀ us E Q, us.length = 1 → vsp_real us E Q → bodyV (VM.fns []) 1 m_law_reach17 us E Q := by
  rintro us E Q hl ⟨h, rfl, q⟩
  rw [← rea_eq] at q
  unfold reaL at q
  refine vs_if0 [some (uhf h)] rfl ?_
  refine ⟨_, rfl, _, rfl, _, ne_int _ _, ?_⟩
  by_cases c1 : h.p.1 = 0
  · rw [decide_eq_true c1]
    refine ⟨_, rfl, _, rfl, _, ne_int _ _, ?_⟩
    by_cases c2 : h.q.1 = 0
    · rw [decide_eq_true c2]
      rw [if_neg (fun o => o.elim (fun n => n c1) (fun n => n c2))] at q
      refine iteF ?_
      refine vs_if0 [some (uhf h)] rfl ?_
      refine ⟨_, rfl, _, rfl, _, rfl, ?_⟩
      by_cases c3 : h.r.1 < 0
      · rw [decide_eq_true c3]
        rw [if_pos (.inl c3)] at q
        exact iteT q
      · rw [decide_eq_false c3]
        refine ⟨_, rfl, _, rfl, _, eq_int _ _, ?_⟩
        by_cases c4 : h.r.1 = 0
        · rw [decide_eq_true c4]
          refine ⟨_, rfl, h.st, rfl, ?_⟩
          cases e : h.st with
          | false => rw [e, if_pos (.inr ⟨c4, rfl⟩)] at q; exact iteT q
          | true => rw [e, if_neg (by rintro (x | ⟨_, x⟩); exact c3 x; cases x)] at q; exact iteF q
        · rw [decide_eq_false c4]
          rw [if_neg (by rintro (x | ⟨x, _⟩); exact c3 x; exact c4 x)] at q
          exact iteF q
    · rw [decide_eq_false c2]
      rw [if_pos (.inr c2)] at q
      exact iteT q
  · rw [decide_eq_false c1]
    rw [if_pos (.inl c1)] at q
    exact iteT q
def vsp_excl : VSp := fun us _ Q => ∃ h x y, us = [uhf h, .tup [ru x, ru y]] ∧ Hz 200 h ∧ Zn 200 x ∧ Zn 200 y ∧ Q (ru (excR h x y))
abbrev V_excl : VM := VM.fns [(24, .fn 2 vsp_plus []), (26, .fn 2 vsp_times []), (150, .fn 2 vsp_less [])]
theorem v_excl : ∀ us E Q, us.length = 2 → vsp_excl us E Q → bodyV V_excl 2 m_law_excess17 us E Q := by
  rintro us E Q hl ⟨h, x, y, rfl, z, zx, zy, q⟩
  have m1 := zn_mul z.p zx
  have m2 := zn_mul z.q zy
  refine vs_ret [some (uhf h), some (.tup [ru x, ru y])] rfl ?_
  refine ⟨_, rfl, _, rfl, ?_⟩
  refine cV1 rfl ⟨h.p, x, rfl, z.p.2.mono (by decide), zx.2.mono (by decide), ?_⟩
  refine ⟨_, rfl, _, rfl, ?_⟩
  refine cV1 rfl ⟨h.q, y, rfl, z.q.2.mono (by decide), zy.2.mono (by decide), ?_⟩
  refine cV1 rfl ⟨_, _, rfl, m1.2.mono (by decide), m2.2.mono (by decide), ?_⟩
  refine ⟨_, rfl, ?_⟩
  exact cV1 rfl ⟨_, h.r, rfl, (zn_add m1 m2).2.mono (by decide), z.r.2.mono (by decide), q⟩
def vsp_isin : VSp := fun us _ Q => ∃ h x y, us = [uhf h, .tup [ru x, ru y]] ∧ Hz 200 h ∧ Zn 200 x ∧ Zn 200 y ∧ Q (.bl (inR h x y))
abbrev V_isin : VM := VM.fns [(154, .fn 2 vsp_excl [])]
theorem v_isin : ∀ us E Q, us.length = 2 → vsp_isin us E Q → bodyV V_isin 3 m_law_is_in17 us E Q := by
  rintro us E Q hl ⟨h, x, y, rfl, z, zx, zy, q⟩
  refine vs_set [some (uhf h), some (.tup [ru x, ru y]), none] rfl rfl ?_
  refine cV1 rfl ⟨h, x, y, rfl, z, zx, zy, ?_⟩
  refine ⟨_, rfl, ?_⟩
  unfold inR at q
  show vSs V_isin (tlS m_law_is_in17) [.fz (uhf h), .fz (.tup [ru x, ru y]), .fz (.int (excR h x y).1)] (kvB E Q)
  generalize (excR h x y).1 = e at q ⊢
  refine vs_ret [some (uhf h), some (.tup [ru x, ru y]), some (.int e)] rfl ?_
  refine ⟨_, rfl, ?_⟩
  by_cases c1 : 0 < e
  · rw [decide_eq_true c1] at q ⊢
    exact q
  · rw [decide_eq_false c1] at q ⊢
    refine ⟨_, eq_int _ _, ?_⟩
    by_cases c2 : e = 0
    · rw [decide_eq_true c2] at q ⊢
      exact ⟨_, rfl, q⟩
    · rw [decide_eq_false c2] at q ⊢
      exact q
theorem rea_cases (h : HalfR) : reaR h = "line" ∨ reaR h = "none" ∨ reaR h = "all" := by
  unfold reaR
  split
  · exact .inl rfl
  · split
    · exact .inr (.inl rfl)
    · exact .inr (.inr rfl)
theorem eq_str3 : ∀ a ∈ (["line", "none", "all"] : List Str), ∀ b ∈ (["line", "none", "all"] : List Str), VL.eqU (.str a) (.str b) = some (decide (a = b)) := by decide +kernel
theorem rea_mem (h : HalfR) : reaR h ∈ (["line", "none", "all"] : List Str) := by
  rcases rea_cases h with e | e | e <;> rw [e] <;> decide
theorem eq_rea (h g : HalfR) : VL.eqU (.str (reaR h)) (.str (reaR g)) = some (decide (reaR h = reaR g)) := eq_str3 _ (rea_mem h) _ (rea_mem g)
theorem eq_line (h : HalfR) : VL.eqU (.str (reaR h)) (.str "line") = some (decide (reaR h = "line")) := eq_str3 _ (rea_mem h) _ (by decide)
def sameR (h g : HalfR) : Bool := if reaR h ≠ "line" ∨ reaR g ≠ "line" then decide (reaR h = reaR g) else decide (rowH h = rowH g) && decide (h.st = g.st)
def vsp_rowl : VSp := fun us _ Q => ∃ h, us = [uhf h] ∧ Hz 200 h ∧ Q (uro (rowH h))
def vsp_sml : VSp := fun us _ Q => ∃ h g, us = [uhf h, uhf g] ∧ Hz 200 h ∧ Hz 200 g ∧ Q (.bl (sameR h g))
abbrev V_sml : VM := VM.fns [(159, .fn 1 vsp_rowl []), (160, .fn 1 vsp_real [])]
theorem v_sml : ∀ us E Q, us.length = 2 → vsp_sml us E Q → bodyV V_sml 2 m_law_same_points17 us E Q := by
  rintro us E Q hl ⟨h, g, rfl, z, zg, q⟩
  unfold sameR at q
  refine vs_if0 [some (uhf h), some (uhf g)] rfl ?_
  refine cV1 rfl ⟨h, rfl, _, ne_of (eq_line h), ?_⟩
  have fin : (reaR h ≠ "line" ∨ reaR g ≠ "line") → vSs V_sml (.cons (.ret (.cmp .Eq (.call 160 (.cons (.var 0) .nil)) (.call 160 (.cons (.var 1) .nil)))) .nil) [.fz (uhf h), .fz (uhf g)] (kvB E Q) := fun o => by
    rw [if_pos o] at q
    refine vs_ret [some (uhf h), some (uhf g)] rfl ?_
    refine cV1 rfl ⟨h, rfl, ?_⟩
    exact cV1 rfl ⟨g, rfl, _, eq_rea h g, q⟩
  by_cases c1 : reaR h = "line"
  · rw [decide_eq_true c1]
    refine cV1 rfl ⟨g, rfl, _, ne_of (eq_line g), ?_⟩
    by_cases c2 : reaR g = "line"
    · rw [decide_eq_true c2]
      rw [if_neg (fun o => o.elim (fun n => n c1) (fun n => n c2))] at q
      refine iteF ?_
      refine vs_ret [some (uhf h), some (uhf g)] rfl ?_
      refine cV1 rfl ⟨h, rfl, z, ?_⟩
      refine cV1 rfl ⟨g, rfl, zg, _, eq_uro _ _, ?_⟩
      by_cases c3 : rowH h = rowH g
      · rw [decide_eq_true c3] at q ⊢
        exact ⟨_, rfl, _, rfl, _, eq_bl _ _, q⟩
      · rw [decide_eq_false c3] at q ⊢
        exact q
    · rw [decide_eq_false c2]
      exact iteT (fin (.inr c2))
  · rw [decide_eq_false c1]
    exact iteT (fin (.inl c1))
end VK
set_option exponentiation.threshold 9000
namespace VK
open PySem PySem.Spec L2 DL LW VL VW
abbrev V_rowl : VM := VM.fns [(22, .fn 2 vsp_gcd17 [])]
theorem v_rowl : ∀ us E Q, us.length = 1 → vsp_rowl us E Q → bodyV V_rowl 6 m_law_row17 us E Q := by
  rintro us E Q hl ⟨⟨p, q, r, st⟩, rfl, z, k⟩
  obtain ⟨zp, zq, zr⟩ := z
  have k : Q (uro (rowI p q r)) := k
  rw [← row_eq zp.1.1 zq.1.1 zr.1.1] at k
  have b2 := w_mul zp.2.2.1 zq.2.2.1
  have Lz := w_mul b2 zr.2.2.1
  have L0 : 0 < p.2 * q.2 * r.2 := Int.mul_pos (Int.mul_pos zp.1.1 zq.1.1) zr.1.1
  refine ⟨_, rfl, _, rfl, _, rfl, _, rfl, w_mulB (w_up zp.2.2.1 (by decide)) (w_up zq.2.2.1 (by decide)), _, rfl, _, rfl, w_mulB (w_up b2 (by decide)) (w_up zr.2.2.1 (by decide)), ?_⟩
  show vSs V_rowl (tlS m_law_row17) [.fz (uhf ⟨p, q, r, st⟩), .fz (.int (p.2 * q.2 * r.2)), .no, .no, .no, .no] (kvB E Q)
  unfold rowL at k
  simp only at k
  generalize p.2 * q.2 * r.2 = L at L0 Lz k ⊢
  obtain ⟨ep, bp, op⟩ := over_lt zp.2.1 zp.1.1 Lz (Int.le_of_lt L0)
  obtain ⟨eq, bq, oq⟩ := over_lt zq.2.1 zq.1.1 Lz (Int.le_of_lt L0)
  obtain ⟨er, br, or'⟩ := over_lt zr.2.1 zr.1.1 Lz (Int.le_of_lt L0)
  have dv : ∀ {x : Rt}, Zn 200 x → DivB x.2 := fun z => ⟨Int.ne_of_gt z.1.1, Nat.lt_trans (log2_lt z.2.2.1 (by decide)) (by decide)⟩
  have mu : ∀ {i j : Int}, i.natAbs < 2 ^ 200 → j.natAbs < 2 ^ (200 + 200 + 200) → MulB i j := fun h1 h2 => w_mulB (w_up h1 (by decide)) (w_up h2 (by decide))
  refine vl_lc [some (uhf ⟨p, q, r, st⟩), some (.int L), none, none, none, none] rfl rfl rfl ?_
  refine ⟨_, rfl, ?_⟩
  refine vComp_of ru (fun x => .int (over x L)) [p, q, r] (fun x hx K hK => ?_) (show 3 ≤ 1000 by decide) ?_
  · have zx : Zn 200 x ∧ (L.fdiv x.2).natAbs < 2 ^ (200 + 200 + 200) := by
      simp only [List.mem_cons, List.not_mem_nil, or_false] at hx
      rcases hx with rfl | rfl | rfl
      · exact ⟨zp, bp⟩
      · exact ⟨zq, bq⟩
      · exact ⟨zr, br⟩
    exact ⟨_, rfl, _, rfl, _, rfl, dv zx.1, mu zx.1.2.1 zx.2, hK⟩
  show vSs V_rowl (tlS (tlS m_law_row17)) [.fz (uhf ⟨p, q, r, st⟩), .fz (.int L), .ow [.int (over p L), .int (over q L), .int (over r L)], .no, .no, .no] (kvB E Q)
  generalize over p L = a at op k ⊢
  generalize over q L = b at oq k ⊢
  generalize over r L = c at or' k ⊢
  have gz : (Nat.gcd a.natAbs b.natAbs) < 2 ^ 801 := by
    rcases Nat.eq_zero_or_pos b.natAbs with z2 | z2
    · rw [z2, Nat.gcd_zero_right]; exact w_up op (by decide)
    · exact Nat.lt_of_le_of_lt (Nat.gcd_le_right _ z2) (w_up oq (by decide))
  have gy : (Nat.gcd (Nat.gcd a.natAbs b.natAbs) c.natAbs) < 2 ^ 801 := by
    rcases Nat.eq_zero_or_pos c.natAbs with z2 | z2
    · rw [z2, Nat.gcd_zero_right]; exact gz
    · exact Nat.lt_of_le_of_lt (Nat.gcd_le_right _ z2) (w_up or' (by decide))
  refine va_set [some (uhf ⟨p, q, r, st⟩), some (.int L), some (.lst [.int a, .int b, .int c]), none, none, none] rfl rfl ?_
  refine ⟨_, rfl, _, rfl, ?_⟩
  refine cV1 rfl ⟨a, b, rfl, w_up op (by decide), w_up oq (by decide), ?_⟩
  refine ⟨_, rfl, ?_⟩
  refine cV1 rfl ⟨((Nat.gcd a.natAbs b.natAbs : Nat) : Int), c, rfl, by rw [Int.natAbs_natCast]; exact Nat.lt_trans gz (Nat.pow_lt_pow_right (by decide) (by decide)), w_up or' (by decide), ?_⟩
  rw [Int.natAbs_natCast]
  show vSs V_rowl (tlS (tlS (tlS m_law_row17))) [.fz (uhf ⟨p, q, r, st⟩), .fz (.int L), .ow [.int a, .int b, .int c], .fz (.int (if gcd3 a b c > 1 then gcd3 a b c else 1)), .no, .no] (kvB E Q)
  have hg : 0 < (if gcd3 a b c > 1 then gcd3 a b c else 1) ∧ (if gcd3 a b c > 1 then gcd3 a b c else 1).natAbs < 2 ^ 801 := by
    split
    · refine ⟨by omega, ?_⟩
      unfold gcd3
      rw [Int.natAbs_natCast]
      exact gy
    · exact ⟨by decide, by decide⟩
  obtain ⟨g0, g1⟩ := hg
  generalize (if gcd3 a b c > 1 then gcd3 a b c else 1) = g at g0 g1 k ⊢
  have dg : DivB g := ⟨Int.ne_of_gt g0, Nat.lt_trans (log2_lt g1 (by decide)) (by decide)⟩
  refine va_ret [some (uhf ⟨p, q, r, st⟩), some (.int L), some (.lst [.int a, .int b, .int c]), some (.int g), none, none] rfl rfl ?_
  refine ⟨rfl, _, rfl, ?_⟩
  refine vComp_of U.int (fun x => .int (x.fdiv g)) [a, b, c] (fun x hx K hK => ⟨_, rfl, dg, hK⟩) (show 3 ≤ 1000 by decide) ?_
  exact ⟨_, rfl, k⟩
def otU : U → Prop
  | .tup _ => True
  | .int _ => True
  | _ => False
def vsp_heq : VSp := fun us _ Q => ∃ h u, us = [mdU h, u] ∧ ((otU u ∧ Q (.bl false)) ∨ ∃ g, u = mdU g ∧ Q (.bl (decide (h = g))))
abbrev V_heq : VM := VM.of [(148, ve_half)] hfFl [] [] [] [] [(.inl "tuple", 148, false), (.inl "int", 148, false), (.inr 148, 148, true)] []
theorem v_heq : ∀ us E Q, us.length = 2 → vsp_heq us E Q → bodyV V_heq 2 m_HalfPlane_eq us E Q := by
  rintro us E Q hl ⟨h, u, rfl, ⟨o, q⟩ | ⟨g, rfl, q⟩⟩
  · refine vs_ret [some (mdU h), some u] rfl ?_
    cases u <;> first | (exact o.elim) | skip
    · exact ⟨rfl, _, _, rfl, rfl, q⟩
    · exact ⟨rfl, _, _, rfl, rfl, q⟩
  · refine vs_ret [some (mdU h), some (mdU g)] rfl ?_
    refine ⟨rfl, _, true, rfl, rfl, ?_⟩
    obtain ⟨p, q', r, st⟩ := h
    obtain ⟨p2, q2, r2, st2⟩ := g
    simp only [HalfR.mk.injEq] at q
    refine ⟨rfl, _, rfl, rfl, _, rfl, _, eq_ru _ _, ?_⟩
    by_cases c1 : p = p2
    · simp only [c1, true_and, decide_true] at q ⊢
      refine ⟨rfl, _, rfl, rfl, _, rfl, _, eq_ru _ _, ?_⟩
      by_cases c2 : q' = q2
      · simp only [c2, true_and, decide_true] at q ⊢
        refine ⟨rfl, _, rfl, rfl, _, rfl, _, eq_ru _ _, ?_⟩
        by_cases c3 : r = r2
        · simp only [c3, true_and, decide_true] at q ⊢
          exact ⟨rfl, _, rfl, rfl, _, rfl, _, eq_bl _ _, q⟩
        · simp only [c3, false_and, decide_false] at q ⊢
          exact q
      · simp only [c2, false_and, decide_false] at q ⊢
        exact q
    · simp only [c1, false_and, decide_false] at q ⊢
      exact q
def vsp_isame : VSp := fun us _ Q => ∃ h g, us = [mdU h, mdU g] ∧ Hz 200 h ∧ Hz 200 g ∧ Q (.bl (sameR h g))
abbrev V_isame : VM := VM.of [(148, ve_half)] hfFl [] [] [] [(148, "reach", vsp_rea)] [] []
theorem v_isame : ∀ us E Q, us.length = 2 → vsp_isame us E Q → bodyV V_isame 2 m_HalfPlane_is_same us E Q := by
  rintro us E Q hl ⟨h, g, rfl, z, zg, q⟩
  unfold sameR at q
  refine vs_if0 [some (mdU h), some (mdU g)] rfl ?_
  refine ⟨rfl, rfl, h, rfl, z, ?_⟩
  refine ⟨rfl, rfl, g, rfl, zg, _, ne_of (eq_rea h g), ?_⟩
  by_cases c0 : reaR h = reaR g
  · rw [decide_eq_true c0]
    refine iteF ?_
    refine vs_ret [some (mdU h), some (mdU g)] rfl ?_
    refine ⟨rfl, rfl, h, rfl, z, _, ne_of (eq_line h), ?_⟩
    by_cases c1 : reaR h = "line"
    · rw [decide_eq_true c1]
      rw [if_neg (fun o => o.elim (fun n => n c1) (fun n => n (c0 ▸ c1)))] at q
      refine ⟨rfl, _, rfl, rfl, _, rfl, _, eq_uro _ _, ?_⟩
      by_cases c3 : rowH h = rowH g
      · rw [decide_eq_true c3] at q ⊢
        exact ⟨rfl, _, rfl, rfl, _, rfl, _, eq_bl _ _, q⟩
      · rw [decide_eq_false c3] at q ⊢
        exact q
    · rw [decide_eq_false c1]
      rw [if_pos (.inl c1), decide_eq_true c0] at q
      exact q
  · rw [decide_eq_false c0]
    rw [if_pos (by by_cases c1 : reaR h = "line"; exact .inr (fun e => c0 (c1.trans e.symm)); exact .inl c1), decide_eq_false c0] at q
    exact iteT q
theorem vComp_non {α : Type} {step : U → (Option U → Prop) → Prop} {Q : List U → Prop} (f : α → U) : ∀ (xs : List α) (acc : List U), (∀ a ∈ xs, ∀ K : Option U → Prop, K none → step (f a) K) → Q acc → vComp step (xs.map f) acc Q
  | [], acc, _, q => q
  | a :: r, acc, h, q => h a List.mem_cons_self _ (vComp_non f r acc (fun b hb => h b (List.mem_cons_of_mem _ hb)) q)
def vsp_fits : VSp := fun us _ Q => ∃ h, us = [mdU h, uhf h] ∧ Hz 200 h ∧ Q (.bl true)
abbrev V_fits : VM := VM.of [(30, .fn 1 vsp_isr []), (148, ve_half), (151, .fn 1 vsp_whl []), (156, .fn 2 vsp_truth []), (159, .fn 1 vsp_rowl []), (160, .fn 1 vsp_real [])] hfFl [] [] [] [(148, "reach", vsp_rea)] [] []
theorem v_fits : ∀ us E Q, us.length = 2 → vsp_fits us E Q → bodyV V_fits 5 m_law_fits17 us E Q := by
  rintro us E Q hl ⟨h, rfl, z, q⟩
  have er : ∀ x, cmpU .NotEq (ru x) (ru x) = some false := fun x => by rw [ne_of (eq_ru x x), decide_eq_true rfl]; rfl
  refine vs_if0 [some (mdU h), some (uhf h), none, none, none] rfl ?_
  refine ⟨rfl, _, rfl, _, rfl, _, er _, ?_⟩
  refine ⟨rfl, _, rfl, _, rfl, _, er _, ?_⟩
  refine ⟨rfl, _, rfl, _, rfl, _, er _, ?_⟩
  refine ⟨rfl, _, rfl, _, rfl, ?_⟩
  refine cV1 rfl ⟨h.st, rfl, true, rfl, ?_⟩
  refine iteF ?_
  have rg : ∀ x ∈ [h.p, h.q, h.r], Zn 200 x := by
    intro x hx
    simp only [List.mem_cons, List.not_mem_nil, or_false] at hx
    rcases hx with rfl | rfl | rfl
    · exact z.p
    · exact z.q
    · exact z.r
  refine vs_if0 [some (mdU h), some (uhf h), none, none, none] rfl ?_
  refine ⟨rfl, rfl, _, rfl, rfl, _, rfl, rfl, _, rfl, zs rfl, _, rfl, ?_⟩
  refine vComp_non ru [h.p, h.q, h.r] [] (fun x hx K hK => ⟨_, rfl, cV1 rfl ⟨x, rfl, (rg x hx).up (by decide), true, rfl, hK⟩⟩) ?_
  refine ⟨zs rfl, false, rfl, iteF ?_⟩
  refine vs_set [some (mdU h), some (uhf h), none, none, none] rfl rfl ?_
  refine ⟨rfl, _, rfl, ?_⟩
  show vSs V_fits (tlS (tlS (tlS m_law_fits17))) [.fz (mdU h), .fz (uhf h), .fz (uro (rowH h)), .no, .no] (kvB E Q)
  generalize hw : rowH h = w
  refine vs_if0 [some (mdU h), some (uhf h), some (uro w), none, none] rfl ?_
  refine ⟨true, rfl, true, rfl, ?_⟩
  refine ⟨rfl, _, rfl, ?_⟩
  refine vComp_non U.int [w.a, w.b, w.c] [] (fun x hx K hK => ⟨_, rfl, cV1 rfl ⟨x, rfl, true, rfl, hK⟩⟩) ?_
  refine ⟨zs rfl, false, rfl, iteF ?_⟩
  refine vs_ret [some (mdU h), some (uhf h), some (uro w), none, none] rfl ?_
  refine cV1 rfl ⟨h, rfl, z, _, eq_uro _ _, ?_⟩
  rw [decide_eq_true hw.symm]
  refine ⟨rfl, rfl, h, rfl, z, ?_⟩
  refine cV1 rfl ⟨h, rfl, _, eq_rea h h, ?_⟩
  rw [decide_eq_true rfl]
  exact q
def ptU (p : Rt × Rt) : U := .tup [ru p.1, ru p.2]
def vsp_pts : VSp := fun us _ Q => ∃ h, us = [.hand, uhf h] ∧ Hz 42 h ∧ ∀ ps : List (Rt × Rt), ps.length ≤ 4 → (∀ p ∈ ps, Zn 200 p.1 ∧ Zn 200 p.2) → Q (.lst (ps.map ptU))
theorem vComp_dr {step : U → (Option U → Prop) → Prop} {Q : List U → Prop} (h : ∀ u (K : Option U → Prop), (∀ p : Rt × Rt, Zn 42 p.1 → Zn 42 p.2 → K (some (ptU p))) → step u K) : ∀ (us : List U) (acc : List (Rt × Rt)), acc.length + us.length ≤ 100 → (∀ p ∈ acc, Zn 42 p.1 ∧ Zn 42 p.2) → (∀ ps : List (Rt × Rt), ps.length = acc.length + us.length → (∀ p ∈ ps, Zn 42 p.1 ∧ Zn 42 p.2) → Q (ps.map ptU)) → vComp step us (acc.map ptU) Q
  | [], acc, _, ha, q => q acc rfl ha
  | u :: us, acc, hl, ha, q => h u _ fun p z1 z2 => by
    refine ⟨zl (by rw [List.length_map]; simp at hl; omega), ?_⟩
    have e : acc.map ptU ++ [ptU p] = (acc ++ [p]).map ptU := by simp
    rw [e]
    refine vComp_dr h us (acc ++ [p]) (by simp at hl ⊢; omega) (fun x hx => ?_) (fun ps hp hz => q ps (by simp at hp ⊢; omega) hz)
    rcases List.mem_append.mp hx with y | y
    · exact ha x y
    · rw [List.mem_singleton.mp y]; exact ⟨z1, z2⟩
def trn (x : Rt) : Rt := if 0 < x.1 then (x.2, x.1) else (-x.2, -x.1)
theorem zn_trn {n : Nat} {x : Rt} (z : Zn n x) (h : x.1 ≠ 0) : Zn n (trn x) := by
  obtain ⟨⟨a, b⟩, c, d, e⟩ := z
  unfold trn
  split
  · exact ⟨⟨by assumption, by rw [Nat.gcd_comm]; exact b⟩, d, c, by assumption⟩
  · refine ⟨⟨by show 0 < -x.1; omega, ?_⟩, ?_, ?_, by show 0 < -x.1; omega⟩
    · show Nat.gcd (-x.2).natAbs (-x.1).natAbs = 1
      rw [Int.natAbs_neg, Int.natAbs_neg, Nat.gcd_comm]; exact b
    · show (-x.2).natAbs < _
      rw [Int.natAbs_neg]; exact d
    · show (-x.1).natAbs < _
      rw [Int.natAbs_neg]; exact c
abbrev V_pts : VM := VM.fns [(26, .fn 2 vsp_times []), (150, .fn 2 vsp_less []), (153, .fn 1 vsp_any [])]
theorem v_pts : ∀ us E Q, us.length = 2 → vsp_pts us E Q → bodyV V_pts 7 m_law_points17 us E Q := by
  rintro us E Q hl ⟨h, rfl, z, q⟩
  refine vl_lc [some .hand, some (uhf h), none, none, none, none, none] rfl rfl rfl ?_
  refine ⟨sml_of (by decide) (by decide), ?_⟩
  refine vComp_dr (fun u K hK => ⟨_, rfl, cV1 rfl ⟨rfl, fun a za => cV1 rfl ⟨rfl, fun b zb => ⟨zs rfl, hK (a, b) za zb⟩⟩⟩⟩) _ [] (by decide) (fun p hp => by cases hp) fun ps hp hz => ?_
  have hp : ps.length = 3 := hp
  show vSs V_pts (tlS m_law_points17) [.fz .hand, .fz (uhf h), .ow (ps.map ptU), .no, .no, .no, .no] (kvB E Q)
  have up : ∀ p ∈ ps, Zn 200 p.1 ∧ Zn 200 p.2 := fun p hp => ⟨(hz p hp).1.up (by decide), (hz p hp).2.up (by decide)⟩
  refine cV1 rfl ⟨rfl, fun f zf => ?_⟩
  show vSs V_pts (tlS (tlS m_law_points17)) [.fz .hand, .fz (uhf h), .ow (ps.map ptU), .fz (ru f), .no, .no, .no] (kvB E Q)
  have more : ∀ a b x4 x5, Zn 200 a → Zn 200 b → vSs V_pts (tlS (tlS (tlS m_law_points17))) [.fz .hand, .fz (uhf h), .ow (ps.map ptU ++ [ptU (a, b)]), .fz (ru f), x4, x5, .no] (kvB E Q) := fun a b x4 x5 za zb => by
    have e : ps.map ptU ++ [ptU (a, b)] = (ps ++ [(a, b)]).map ptU := by simp
    rw [e]
    refine q _ (by simp; omega) fun p hp => ?_
    rcases List.mem_append.mp hp with y | y
    · exact up p y
    · rw [List.mem_singleton.mp y]; exact ⟨za, zb⟩
  refine ⟨_, rfl, _, rfl, _, ne_int _ _, ?_⟩
  by_cases c1 : h.p.1 = 0
  · rw [decide_eq_true c1]
    refine iteF ?_
    refine ⟨_, rfl, _, rfl, _, ne_int _ _, ?_⟩
    by_cases c2 : h.q.1 = 0
    · rw [decide_eq_true c2]
      refine iteF ?_
      exact q ps (by omega) up
    · rw [decide_eq_false c2]
      refine iteT ?_
      have zt := zn_trn z.q c2
      have zm := zn_mul z.r zt
      have fin : ∀ t, t = trn h.q → ∀ b : U, b = ru (mulP h.r t) → (ps.map ptU).length < sizeLine ∧ vSs V_pts (tlS (tlS (tlS m_law_points17))) [.fz .hand, .fz (uhf h), .ow (ps.map ptU ++ [.tup [ru f, b]]), .fz (ru f), .no, .fz (ru t), .no] (kvB E Q) := fun t et b eb => by
        subst et; subst eb
        exact ⟨zl (by rw [List.length_map]; omega), more f _ _ _ (zf.up (by decide)) (zm.up (by decide))⟩
      refine ⟨_, rfl, _, rfl, _, rfl, ?_⟩
      by_cases c3 : 0 < h.q.1
      · rw [decide_eq_true c3]
        have et : (h.q.2, h.q.1) = trn h.q := by unfold trn; rw [if_pos c3]
        refine iteT ?_
        refine ⟨_, rfl, _, rfl, _, rfl, _, rfl, zs rfl, ?_⟩
        refine ⟨rfl, ?_⟩
        refine ⟨_, rfl, ?_⟩
        refine cV1 rfl ⟨h.r, (h.q.2, h.q.1), rfl, z.r.2.mono (by decide), (et ▸ zt).2.mono (by decide), ?_⟩
        exact ⟨zs rfl, fin _ et _ rfl⟩
      · rw [decide_eq_false c3]
        have et : (-h.q.2, -h.q.1) = trn h.q := by unfold trn; rw [if_neg c3]
        refine iteF ?_
        refine ⟨_, rfl, _, rfl, _, rfl, _, rfl, zs rfl, ?_⟩
        refine ⟨rfl, ?_⟩
        refine ⟨_, rfl, ?_⟩
        refine cV1 rfl ⟨h.r, (-h.q.2, -h.q.1), rfl, z.r.2.mono (by decide), (et ▸ zt).2.mono (by decide), ?_⟩
        exact ⟨zs rfl, fin _ et _ rfl⟩
  · rw [decide_eq_false c1]
    refine iteT ?_
    have zt := zn_mul z.q zf
    have zs' := zn_sub z.r zt
    refine ⟨_, rfl, ?_⟩
    refine ⟨_, rfl, ?_⟩
    refine cV1 rfl ⟨h.q, f, rfl, z.q.2.mono (by decide), zf.2.mono (by decide), ?_⟩
    refine cV1 rfl ⟨h.r, _, rfl, z.r.2.mono (by decide), zt.2.mono (by decide), ?_⟩
    have zt2 := zn_trn z.p c1
    have zm := zn_mul zs' zt2
    have fin : ∀ t, t = trn h.p → ∀ b : U, b = ru (mulP (subP h.r (mulP h.q f)) t) → (ps.map ptU).length < sizeLine ∧ vSs V_pts (tlS (tlS (tlS m_law_points17))) [.fz .hand, .fz (uhf h), .ow (ps.map ptU ++ [.tup [b, ru f]]), .fz (ru f), .fz (ru (subP h.r (mulP h.q f))), .fz (ru t), .no] (kvB E Q) := fun t et b eb => by
      subst et; subst eb
      exact ⟨zl (by rw [List.length_map]; omega), more _ f _ _ (zm.up (by decide)) (zf.up (by decide))⟩
    refine ⟨_, rfl, _, rfl, _, rfl, ?_⟩
    by_cases c3 : 0 < h.p.1
    · rw [decide_eq_true c3]
      have et : (h.p.2, h.p.1) = trn h.p := by unfold trn; rw [if_pos c3]
      refine iteT ?_
      refine ⟨_, rfl, _, rfl, _, rfl, _, rfl, zs rfl, ?_⟩
      refine ⟨rfl, ?_⟩
      refine cV1 rfl ⟨subP h.r (mulP h.q f), (h.p.2, h.p.1), rfl, zs'.2.mono (by decide), (et ▸ zt2).2.mono (by decide), ?_⟩
      exact ⟨zs rfl, fin _ et _ rfl⟩
    · rw [decide_eq_false c3]
      have et : (-h.p.2, -h.p.1) = trn h.p := by unfold trn; rw [if_neg c3]
      refine iteF ?_
      refine ⟨_, rfl, _, rfl, _, rfl, _, rfl, zs rfl, ?_⟩
      refine ⟨rfl, ?_⟩
      refine cV1 rfl ⟨subP h.r (mulP h.q f), (-h.p.2, -h.p.1), rfl, zs'.2.mono (by decide), (et ▸ zt2).2.mono (by decide), ?_⟩
      exact ⟨zs rfl, fin _ et _ rfl⟩
end VK
set_option exponentiation.threshold 9000
namespace VK
open PySem PySem.Spec L2 DL LW VL VW
def vsp_istold : VSp := fun us _ Q => ∃ h ps, us = [.hand, mdU h, uhf h, .lst (List.map ptU ps)] ∧ Hz 42 h ∧ ps.length ≤ 100 ∧ (∀ p ∈ ps, Zn 200 p.1 ∧ Zn 200 p.2) ∧ Q (.bl true)
abbrev V_ist : VM := VM.of [(21, ve_draw), (30, .fn 1 vsp_isr []), (148, ve_half), (154, .fn 2 vsp_excl []), (155, .fn 2 vsp_isin []), (156, .fn 2 vsp_truth []), (162, .fn 2 vsp_fits [])] hfFl [] [] [(148, "__eq__", (1, vsp_heq, [])), (148, "closed", (0, vsp_clo, [])), (148, "excess_at", (1, vsp_exc, [])), (148, "holds_cargo", (1, vsp_hold, [])), (148, "opposite", (0, vsp_opp, []))] [] [] [(.inr 148, 148)]
def loopB : Sms → Sms
  | .cons (.fo _ _ b) _ => b
  | _ => .nil
def b_ist : Sms := loopB (tlS (tlS (tlS (tlS m_law_is_told17))))
abbrev rI (h : HalfR) (P : U) (p : Rt × Rt) (s8 x9 : Sl) : EnS := [.fz .hand, .fz (mdU h), .fz (uhf h), .fz P, .fz (uhf (opp h)), .fz (uhf (clo h)), .fz (mdU (opp h)), .fz (ptU p), s8, x9, .no]
theorem ne_rf {u : U} (h : (uPy 9 u).isSome = true) : cmpU .NotEq u u = some false := by
  show (VL.eqU u u).map (!·) = _
  unfold VL.eqU
  cases e : uPy 9 u with
  | none => rw [e] at h; cases h
  | some p => show some (!PyData.eqv p p) = _; rw [eqv_refl 9 u p e]; rfl
theorem ne_lt (x y : Rt) : cmpU .NotEq (.lst [ru x, ru y]) (ptU (x, y)) = some true := by
  show some (!PyData.eqv (.list [.tuple [.int x.1, .int x.2], .tuple [.int y.1, .int y.2]]) (.tuple [.tuple [.int x.1, .int x.2], .tuple [.int y.1, .int y.2]])) = _
  simp [PyData.eqv]
theorem step_ist {h : HalfR} {P : U} {x y : Rt} {s8 x9 : Sl} {K : KV} {v8 : U} (hs : s8 = .fz (.lst [ru x, ru y]) ∧ v8 = .lst [ru x, ru y] ∨ s8 = .fz (ptU (x, y)) ∧ v8 = ptU (x, y)) (z : Hz 200 h) (zx : Zn 200 x) (zy : Zn 200 y) (hn : ∀ x9, K.nx (rI h P (x, y) s8 x9)) : vSs V_ist (tlS b_ist) (rI h P (x, y) s8 x9) K := by
  have sq : seqU v8 = some [ru x, ru y] := by rcases hs with ⟨_, rfl⟩ | ⟨_, rfl⟩ <;> rfl
  have mc : ∀ {E : EU} {Q : QU}, Q (mdU (clo h)) → mtV V_ist 148 "closed" (mdU h) 0 [] E Q := fun q => mt1 rfl rfl ⟨h, rfl, z, q⟩
  have me : ∀ {E : EU} {Q : QU}, Q (ru (excR h x y)) → mtV V_ist 148 "excess_at" (mdU h) 1 [v8] E Q := fun q => mt1 rfl rfl ⟨h, v8, x, y, rfl, sq, z, zx, zy, q⟩
  have mh : ∀ {g : HalfR} {E : EU} {Q : QU}, Hz 200 g → Q (.bl (inR g x y)) → mtV V_ist 148 "holds_cargo" (mdU g) 1 [v8] E Q := fun {g} {E Q} zg q => mt1 rfl rfl ⟨g, v8, x, y, rfl, sq, zg, zx, zy, q⟩
  have ze := zn_sub (zn_add (zn_mul z.p zx) (zn_mul z.q zy)) z.r
  rcases hs with ⟨rfl, rfl⟩ | ⟨rfl, rfl⟩
  · refine ⟨rfl, ⟨by decide, by decide⟩, rfl, rfl, me ?_⟩
    refine cV1 rfl ⟨excR h x y, rfl, ze.up (by decide), true, rfl, ?_⟩
    refine cV1 rfl ⟨h, x, y, rfl, z, zx, zy, _, ne_rf rfl, ?_⟩
    refine iteF ?_
    refine ⟨rfl, ⟨by decide, by decide⟩, rfl, rfl, mh z ?_⟩
    refine cV1 rfl ⟨h, x, y, rfl, z, zx, zy, ?_⟩
    refine cV1 rfl ⟨inR h x y, rfl, true, rfl, iteF ?_⟩
    refine ⟨rfl, ⟨by decide, by decide⟩, rfl, rfl, mh (hz_opp z) ?_⟩
    refine cV1 rfl ⟨opp h, x, y, rfl, hz_opp z, zx, zy, ?_⟩
    refine cV1 rfl ⟨inR (opp h) x y, rfl, true, rfl, iteF ?_⟩
    refine ⟨rfl, ⟨by decide, by decide⟩, rfl, ⟨by decide, by decide⟩, rfl, rfl, mc ?_⟩
    refine ⟨rfl, rfl, mh (hz_clo z) ?_⟩
    refine cV1 rfl ⟨clo h, x, y, rfl, hz_clo z, zx, zy, ?_⟩
    refine cV1 rfl ⟨inR (clo h) x y, rfl, true, rfl, iteF ?_⟩
    refine ⟨_, ne_lt x y, ?_⟩
    refine ⟨_, rfl, _, ne_rf rfl, iteF ?_⟩
    exact hn _
  · refine ⟨rfl, ⟨by decide, by decide⟩, rfl, rfl, me ?_⟩
    refine cV1 rfl ⟨excR h x y, rfl, ze.up (by decide), true, rfl, ?_⟩
    refine cV1 rfl ⟨h, x, y, rfl, z, zx, zy, _, ne_rf rfl, ?_⟩
    refine iteF ?_
    refine ⟨rfl, ⟨by decide, by decide⟩, rfl, rfl, mh z ?_⟩
    refine cV1 rfl ⟨h, x, y, rfl, z, zx, zy, ?_⟩
    refine cV1 rfl ⟨inR h x y, rfl, true, rfl, iteF ?_⟩
    refine ⟨rfl, ⟨by decide, by decide⟩, rfl, rfl, mh (hz_opp z) ?_⟩
    refine cV1 rfl ⟨opp h, x, y, rfl, hz_opp z, zx, zy, ?_⟩
    refine cV1 rfl ⟨inR (opp h) x y, rfl, true, rfl, iteF ?_⟩
    refine ⟨rfl, ⟨by decide, by decide⟩, rfl, ⟨by decide, by decide⟩, rfl, rfl, mc ?_⟩
    refine ⟨rfl, rfl, mh (hz_clo z) ?_⟩
    refine cV1 rfl ⟨clo h, x, y, rfl, hz_clo z, zx, zy, ?_⟩
    refine cV1 rfl ⟨inR (clo h) x y, rfl, true, rfl, iteF ?_⟩
    refine ⟨_, ne_rf rfl, iteF ?_⟩
    exact hn _
theorem v_ist : ∀ us E Q, us.length = 4 → vsp_istold us E Q → bodyV V_ist 11 m_law_is_told17 us E Q := by
  rintro us E Q hl ⟨h, ps, rfl, z42, hl100, hz, q⟩
  have z : Hz 200 h := z42.up (by decide)
  generalize hP : U.lst (List.map ptU ps) = P
  refine ⟨rfl, _, rfl, ?_⟩
  refine vComp_of ru (fun x => ru (ngk x)) [h.p, h.q, h.r] (fun x hx K hK => ⟨_, rfl, .int x.1, rfl, .int x.2, rfl, zs rfl, hK⟩) (show 3 ≤ 1000 by decide) ?_
  refine ⟨_, rfl, _, rfl, zs rfl, zs rfl, ?_⟩
  refine ⟨zs rfl, zs rfl, ?_⟩
  show vSs V_ist (tlS (tlS m_law_is_told17)) [.fz .hand, .fz (mdU h), .fz (uhf h), .fz P, .fz (uhf (opp h)), .fz (uhf (clo h)), .no, .no, .no, .no, .no] (kvB E Q)
  refine vs_set [some .hand, some (mdU h), some (uhf h), some P, some (uhf (opp h)), some (uhf (clo h)), none, none, none, none, none] rfl rfl ?_
  have mo : ∀ {E : EU} {Q : QU}, Q (mdU (opp h)) → mtV V_ist 148 "opposite" (mdU h) 0 [] E Q := fun q => mt1 rfl rfl ⟨h, rfl, z, q⟩
  have mc : ∀ {E : EU} {Q : QU}, Q (mdU (clo h)) → mtV V_ist 148 "closed" (mdU h) 0 [] E Q := fun q => mt1 rfl rfl ⟨h, rfl, z, q⟩
  refine ⟨rfl, ⟨by decide, by decide⟩, rfl, rfl, mo ?_⟩
  refine vs_if0 [some .hand, some (mdU h), some (uhf h), some P, some (uhf (opp h)), some (uhf (clo h)), some (mdU (opp h)), none, none, none, none] rfl ?_
  refine cV1 rfl ⟨opp h, rfl, hz_opp z, true, rfl, ?_⟩
  refine ⟨rfl, ⟨by decide, by decide⟩, rfl, rfl, mc ?_⟩
  refine cV1 rfl ⟨clo h, rfl, hz_clo z, true, rfl, ?_⟩
  refine cV1 rfl ⟨h, rfl, z, true, rfl, ?_⟩
  refine iteF ?_
  show vSs V_ist (tlS (tlS (tlS (tlS m_law_is_told17)))) [.fz .hand, .fz (mdU h), .fz (uhf h), .fz P, .fz (uhf (opp h)), .fz (uhf (clo h)), .fz (mdU (opp h)), .no, .no, .no, .no] (kvB E Q)
  refine ⟨rfl, ?_⟩
  subst hP
  refine ⟨_, rfl, ?_⟩
  refine vFor_inv (fun us ρ => ∃ qs x7 x8 x9, us = List.map ptU qs ∧ (∀ p ∈ qs, Zn 200 p.1 ∧ Zn 200 p.2) ∧ ρ = [.fz .hand, .fz (mdU h), .fz (uhf h), .fz (.lst (List.map ptU ps)), .fz (uhf (opp h)), .fz (uhf (clo h)), .fz (mdU (opp h)), x7, x8, x9, .no]) ?_ ?_ _ _ ⟨ps, .no, .no, .no, rfl, hz, rfl⟩
  · rintro u us ρ ⟨qs, x7, x8, x9, e, hq, rfl⟩
    cases qs with
    | nil => cases e
    | cons p qs =>
      simp only [List.map_cons, List.cons.injEq] at e
      obtain ⟨rfl, rfl⟩ := e
      obtain ⟨zx, zy⟩ := hq p List.mem_cons_self
      refine ⟨_, rfl, fun nx ct bk go _ => ?_⟩
      have fin : ∀ {s8 v8}, (s8 = .fz (.lst [ru p.1, ru p.2]) ∧ v8 = .lst [ru p.1, ru p.2] ∨ s8 = .fz (ptU (p.1, p.2)) ∧ v8 = ptU (p.1, p.2)) → vSs V_ist (tlS b_ist) (rI h (.lst (List.map ptU ps)) (p.1, p.2) s8 x9) { (kvB E Q) with nx := nx, ct := ct, bk := bk } := fun hs => step_ist hs z zx zy fun x9' => go _ ⟨qs, _, _, x9', rfl, fun b hb => hq b (List.mem_cons_of_mem _ hb), rfl⟩
      refine cV_draw (k := 2) (by decide) (by decide) fun v v0 v1 => ⟨_, eq_int _ _, ?_⟩
      by_cases c : v = 0
      · rw [decide_eq_true c]
        refine iteT ?_
        exact ⟨_, rfl, fin (.inl ⟨rfl, rfl⟩)⟩
      · rw [decide_eq_false c]
        exact iteF (fin (.inr ⟨rfl, rfl⟩))
  · rintro ρ ⟨qs, x7, x8, x9, e, hq, rfl⟩
    have heq : ∀ {E : EU} {Q : QU}, Q (.bl true) → mtV V_ist 148 "__eq__" (mdU (clo h)) 1 [mdU (clo h)] E Q := fun q => mt1 rfl rfl ⟨clo h, mdU (clo h), rfl, .inr ⟨clo h, rfl, by rw [decide_eq_true rfl]; exact q⟩⟩
    refine ⟨rfl, ⟨by decide, by decide⟩, rfl, ⟨by decide, by decide⟩, rfl, rfl, mc ?_⟩
    refine ⟨by decide, by decide, _, rfl, _, rfl, _, rfl, ?_⟩
    refine ⟨rfl, ?_⟩
    change vsp_half [ru h.p, ru h.q, ru h.r, .bl false] _ _
    refine Or.inl ⟨clo h, rfl, hz_clo z, ?_⟩
    exact ⟨rfl, ⟨_, rfl, rfl⟩, heq ⟨true, rfl, q⟩⟩
end VK
set_option exponentiation.threshold 9000
namespace VK
open PySem PySem.Spec L2 DL LW VL VW
theorem same_comm (h g : HalfR) : sameR g h = sameR h g := by
  unfold sameR
  have e1 : decide (reaR g = reaR h) = decide (reaR h = reaR g) := decide_eq_decide.mpr ⟨Eq.symm, Eq.symm⟩
  have e2 : decide (rowH g = rowH h) = decide (rowH h = rowH g) := decide_eq_decide.mpr ⟨Eq.symm, Eq.symm⟩
  have e3 : decide (g.st = h.st) = decide (h.st = g.st) := decide_eq_decide.mpr ⟨Eq.symm, Eq.symm⟩
  rw [e1, e2, e3]
  by_cases c : reaR h ≠ "line" ∨ reaR g ≠ "line"
  · rw [if_pos c, if_pos c.symm]
  · rw [if_neg c, if_neg (fun z => c z.symm)]
def vsp_comp : VSp := fun us _ Q => ∃ h g, us = [.hand, mdU h, uhf h, uhf g] ∧ Hz 42 h ∧ Hz 42 g ∧ Q (.bl true)
abbrev V_comp : VM := VM.of [(21, ve_draw), (23, .fn 2 vsp_rat []), (24, .fn 2 vsp_plus []), (26, .fn 2 vsp_times []), (49, .fn 2 vsp_pick []), (148, ve_half), (156, .fn 2 vsp_truth []), (164, .fn 2 vsp_sml [])] hfFl [] [] [(148, "__eq__", (1, vsp_heq, [])), (148, "is_same", (1, vsp_isame, []))] [] [] [(.inr 148, 148), (.inl "tuple", 148), (.inl "int", 148), (.inl "!=", 148)]
def b_comp : Sms := loopB (tlS (tlS (tlS (tlS (tlS m_law_compared17)))))
abbrev rC (h g : HalfR) (x4 x5 x6 x7 x8 x9 : Sl) : EnS := [.fz .hand, .fz (mdU h), .fz (uhf h), .fz (uhf g), x4, x5, x6, x7, x8, x9, .no]
theorem step_comp {h g o : HalfR} {x4 x5 x6 x7 x9 : Sl} {K : KV} (z : Hz 200 h) (zo : Hz 200 o) (hn : ∀ x9, K.nx (rC h g x4 x5 x6 x7 (.fz (uhf o)) x9)) : vSs V_comp b_comp (rC h g x4 x5 x6 x7 (.fz (uhf o)) x9) K := by
  have ms : ∀ {a b : HalfR} {E : EU} {Q : QU}, Hz 200 a → Hz 200 b → Q (.bl (sameR a b)) → mtV V_comp 148 "is_same" (mdU a) 1 [mdU b] E Q := fun {a b} {E Q} za zb q => mt1 rfl rfl ⟨a, b, rfl, za, zb, q⟩
  have me : ∀ {E : EU} {Q : QU}, Q (.bl (decide (h = o))) → mtV V_comp 148 "__eq__" (mdU h) 1 [mdU o] E Q := fun q => mt1 rfl rfl ⟨h, mdU o, rfl, .inr ⟨o, rfl, q⟩⟩
  refine ⟨by decide, by decide, _, rfl, _, rfl, _, rfl, _, rfl, ?_⟩
  refine ⟨rfl, ?_⟩
  change vsp_half [ru o.p, ru o.q, ru o.r, .bl o.st] _ _
  refine Or.inl ⟨o, rfl, zo, ?_⟩
  refine ⟨rfl, ⟨by decide, by decide⟩, rfl, rfl, ms z zo ?_⟩
  refine cV1 rfl ⟨h, o, rfl, z, zo, ?_⟩
  refine cV1 rfl ⟨sameR h o, rfl, true, rfl, iteF ?_⟩
  refine ⟨rfl, ⟨by decide, by decide⟩, rfl, rfl, ms zo z ?_⟩
  refine cV1 rfl ⟨h, o, rfl, z, zo, ?_⟩
  refine cV1 rfl ⟨sameR h o, by rw [same_comm], true, rfl, iteF ?_⟩
  refine ⟨rfl, ⟨by decide, by decide⟩, rfl, ⟨_, rfl, rfl⟩, me ⟨_, rfl, ?_⟩⟩
  refine ⟨_, eq_uhf _ _, ?_⟩
  refine cV1 rfl ⟨decide (h = o), rfl, true, rfl, ?_⟩
  refine ⟨rfl, ⟨by decide, by decide⟩, rfl, rfl, ⟨_, rfl, rfl⟩, me ⟨_, rfl, ?_⟩⟩
  refine ⟨_, ne_of (eq_uhf _ _), ?_⟩
  refine cV1 rfl ⟨!decide (h = o), rfl, true, rfl, ?_⟩
  refine iteF ?_
  exact hn _
theorem v_comp : ∀ us E Q, us.length = 4 → vsp_comp us E Q → bodyV V_comp 11 m_law_compared17 us E Q := by
  rintro us E Q hl ⟨h, g, rfl, z, zg, q⟩
  refine cV_draw (k := 12) (by decide) (by decide) fun a a0 a1 => ?_
  refine cV_draw (k := 6) (by decide) (by decide) fun b b0 b1 => ?_
  have zs' : Zn 42 (lowP (1 + a) (1 + b)) := zn_low (by omega) (by omega) (by omega)
  refine cV1 rfl ⟨1 + a, 1 + b, rfl, by omega, w_up (n := 42) (by omega) (by decide), w_up (n := 42) (by omega) (by decide), ?_⟩
  generalize lowP (1 + a) (1 + b) = s at zs' ⊢
  have rg : ∀ x ∈ [h.p, h.q, h.r], Zn 42 x := by
    intro x hx
    simp only [List.mem_cons, List.not_mem_nil, or_false] at hx
    rcases hx with rfl | rfl | rfl
    · exact z.p
    · exact z.q
    · exact z.r
  refine ⟨rfl, _, rfl, ?_⟩
  refine vComp_of ru (fun x => ru (mulP x s)) [h.p, h.q, h.r] (fun x hx K hK => ⟨_, rfl, cV1 rfl ⟨x, s, rfl, (rg x hx).2.mono (by decide), zs'.2.mono (by decide), hK⟩⟩) (show 3 ≤ 1000 by decide) ?_
  refine ⟨_, rfl, _, rfl, zs rfl, zs rfl, ?_⟩
  refine ⟨_, rfl, ?_⟩
  generalize hL : (⟨mulP h.p s, mulP h.q s, mulP h.r s, h.st⟩ : HalfR) = L
  have zL : Hz 200 L := by
    subst hL
    exact ⟨(zn_mul z.p zs').up (by decide), (zn_mul z.q zs').up (by decide), (zn_mul z.r zs').up (by decide)⟩
  have hL5 : U.tup ([ru h.p, ru h.q, ru h.r].map (fun u => u) ++ []) = U.tup [ru h.p, ru h.q, ru h.r] := rfl
  have st0 : vSs V_comp (tlS (tlS (tlS m_law_compared17))) (rC h g (.fz (ru s)) (.fz (uhf L)) (.ow [ru h.p, ru h.q, ru h.r, .bl h.st]) .no .no .no) (kvB E Q) := by
    have z2 : Hz 200 h := z.up (by decide)
    have fin : ∀ (n : HalfR) (x7 : Sl), Hz 200 n → vSs V_comp (tlS (tlS (tlS (tlS (tlS m_law_compared17))))) (rC h g (.fz (ru s)) (.fz (uhf L)) (.ow [ru n.p, ru n.q, ru n.r, .bl n.st]) x7 .no .no) (kvB E Q) := fun n x7 zn => by
      refine ⟨rfl, _, rfl, zs rfl, _, rfl, ?_⟩
      refine vFor_inv (fun us ρ => ∃ os x6 x8 x9, us = List.map uhf os ∧ (∀ o ∈ os, Hz 200 o) ∧ ρ = rC h g (.fz (ru s)) (.fz (uhf L)) x6 x7 x8 x9) ?_ ?_ _ _ ⟨[L, n, g, h], _, .no, .no, rfl, ?_, rfl⟩
      · rintro u us ρ ⟨os, x6, x8, x9, e, ho, rfl⟩
        cases os with
        | nil => cases e
        | cons o os =>
          simp only [List.map_cons, List.cons.injEq] at e
          obtain ⟨rfl, rfl⟩ := e
          exact ⟨_, rfl, fun nx ct bk go _ => step_comp (K := { (kvB E Q) with nx := nx, ct := ct, bk := bk }) z2 (ho o List.mem_cons_self) fun x9' => go _ ⟨os, _, _, x9', rfl, fun b hb => ho b (List.mem_cons_of_mem _ hb), rfl⟩⟩
      · rintro ρ ⟨os, x6, x8, x9, e, ho, rfl⟩
        have me : ∀ {u : U} {E : EU} {Q : QU}, otU u → Q (.bl false) → mtV V_comp 148 "__eq__" (mdU h) 1 [u] E Q := fun {u} {E Q} o q => mt1 rfl rfl ⟨h, u, rfl, .inl ⟨o, q⟩⟩
        refine ⟨rfl, ⟨by decide, by decide⟩, rfl, ⟨_, rfl, rfl⟩, me trivial ⟨_, rfl, ?_⟩⟩
        refine ⟨rfl, ⟨by decide, by decide⟩, rfl, ⟨_, rfl, rfl⟩, me trivial ⟨_, rfl, ?_⟩⟩
        exact q
      · intro o ho
        simp only [List.mem_cons, List.not_mem_nil, or_false] at ho
        rcases ho with rfl | rfl | rfl | rfl
        · exact zL
        · exact zn
        · exact zg.up (by decide)
        · exact z2
    refine cV_draw (k := 4) (by decide) (by decide) fun v v0 v1 => ?_
    refine ⟨_, eq_int _ _, ?_⟩
    by_cases c : v = 3
    · rw [decide_eq_true c]
      refine iteT ?_
      refine ⟨rfl, _, rfl, ?_⟩
      exact ⟨3, ixN_nat (show 3 < 4 by decide), fin ⟨h.p, h.q, h.r, !h.st⟩ _ ⟨z2.p, z2.q, z2.r⟩⟩
    · rw [decide_eq_false c]
      refine iteF ?_
      have one : ∀ y x : Rt, Zn 42 y → x ∈ ([(1, 1), (-1, 1), (1, 7), y] : List Rt) → Zn 42 x := by
        intro y x zy hx
        simp only [List.mem_cons, List.not_mem_nil, or_false] at hx
        rcases hx with rfl | rfl | rfl | rfl
        · exact ⟨⟨by decide, by decide⟩, by decide, by decide, by decide⟩
        · exact ⟨⟨by decide, by decide⟩, by decide, by decide, by decide⟩
        · exact ⟨⟨by decide, by decide⟩, by decide, by decide, by decide⟩
        · exact zy
      have pk : ∀ y : Rt, Zn 42 y → ∀ {Q : QU} {E : EU}, (∀ x, Zn 42 x → Q (ru x)) → vsp_pick [.hand, .lst [.tup [.int 1, .int 1], .tup [.int (-1), .int 1], .tup [.int 1, .int 7], ru y]] E Q := fun y zy {Q} {E} k => by
        refine ⟨_, rfl, (show 0 < 4 by decide), (show 4 ≤ 100 by decide), fun x hx => ?_⟩
        simp only [List.mem_cons, List.not_mem_nil, or_false] at hx
        rcases hx with rfl | rfl | rfl | rfl
        · exact k (1, 1) (one y _ zy (by simp))
        · exact k (-1, 1) (one y _ zy (by simp))
        · exact k (1, 7) (one y _ zy (by simp))
        · exact k y zy
      have h3 : v = 0 ∨ v = 1 ∨ v = 2 := by omega
      rcases h3 with rfl | rfl | rfl
      · refine ⟨rfl, _, rfl, ?_⟩
        refine ⟨zs rfl, zs rfl, zs rfl, _, rfl, zs rfl, ?_⟩
        refine cV1 rfl (pk h.p z.p fun x zx => ?_)
        refine cV1 rfl ⟨h.p, x, rfl, z.p.2.mono (by decide), zx.2.mono (by decide), ?_⟩
        exact ⟨0, ixN_nat (show 0 < 4 by decide), fin ⟨sumP h.p x, h.q, h.r, h.st⟩ _ ⟨(zn_add z.p zx).up (by decide), z2.q, z2.r⟩⟩
      · refine ⟨rfl, _, rfl, ?_⟩
        refine ⟨zs rfl, zs rfl, zs rfl, _, rfl, zs rfl, ?_⟩
        refine cV1 rfl (pk h.q z.q fun x zx => ?_)
        refine cV1 rfl ⟨h.q, x, rfl, z.q.2.mono (by decide), zx.2.mono (by decide), ?_⟩
        exact ⟨1, ixN_nat (show 1 < 4 by decide), fin ⟨h.p, sumP h.q x, h.r, h.st⟩ _ ⟨z2.p, (zn_add z.q zx).up (by decide), z2.r⟩⟩
      · refine ⟨rfl, _, rfl, ?_⟩
        refine ⟨zs rfl, zs rfl, zs rfl, _, rfl, zs rfl, ?_⟩
        refine cV1 rfl (pk h.r z.r fun x zx => ?_)
        refine cV1 rfl ⟨h.r, x, rfl, z.r.2.mono (by decide), zx.2.mono (by decide), ?_⟩
        exact ⟨2, ixN_nat (show 2 < 4 by decide), fin ⟨h.p, h.q, sumP h.r x, h.st⟩ _ ⟨z2.p, z2.q, (zn_add z.r zx).up (by decide)⟩⟩
  subst hL
  exact st0
end VK
set_option exponentiation.threshold 9000
namespace VK
open PySem PySem.Spec L2 DL LW VL VW
def s_B17 : Sms := tlS m_law17
def b_law17 : Sms := loopB s_B17
def kwc17 : Nat → Nat → List Str → Option (List (Sum Nat U)) := fun g n ks => if g = 148 ∧ n = 3 ∧ ks = [("strict" : Str)] then some [.inl 0, .inl 1, .inl 2, .inl 3] else none
abbrev V_l17 : VM := VM.of [(31, .fn 2 vsp_refused []), (65, .fn 1 vsp_told []), (148, ve_half), (157, .fn 1 vsp_drawn []), (161, .fn 2 vsp_pts []), (162, .fn 2 vsp_fits []), (163, .fn 4 vsp_istold []), (165, .fn 4 vsp_comp [])] hfFl [] [] [] [] [] []
abbrev V_law17 : VM := { V_l17 with kwc := kwc17 }
def e_mkk : Ex := .mkk 148 (.cons (.ix (.var 4) (.int 0)) (.cons (.ix (.var 4) (.int 1)) (.cons (.ix (.var 4) (.int 2)) .nil))) [(Str.ofString "strict")] (.cons (.ix (.var 4) (.int 3)) .nil)
theorem kwc_at : V_law17.kwc 148 3 [(Str.ofString "strict")] = some [(.inl 0 : Sum Nat U), .inl 1, .inl 2, .inl 3] := by
  have e : V_law17.kwc = kwc17 := rfl
  rw [e]
  unfold kwc17
  exact if_pos ⟨rfl, rfl, rfl⟩
theorem mkk_g {g : HalfR} {ρ : EnU} {E : EU} {Q : QU} (z : Hz 200 g) (h4 : ρ[4]? = some (some (uhf g))) (q : Q (mdU g)) : vE V_law17 e_mkk ρ E Q := by
  have ix : ∀ (i : Int) (u : U) {E : EU} {Q : QU}, ixU (uhf g) (.int i) Q → vE V_law17 (.ix (.var 4) (.int i)) ρ E Q := fun i u {E} {Q} h => by
    show vE V_law17 (.var 4) ρ E fun x => vE V_law17 (.int i) ρ E fun y => ixU x y Q
    simp only [vE, h4]
    exact h
  show (match V_law17.gv 148, V_law17.kwc 148 3 [(Str.ofString "strict")] with
    | .cla (some (_, sp, _)), some pat => vEs V_law17 (.cons (.ix (.var 4) (.int 0)) (.cons (.ix (.var 4) (.int 1)) (.cons (.ix (.var 4) (.int 2)) .nil))) ρ E fun us => vEs V_law17 (.cons (.ix (.var 4) (.int 3)) .nil) ρ E fun ws => us.length = 3 ∧ ws.length = 1 ∧ sp (patU pat us ws) E fun ks' us' => Q (.obj 148 ks' us')
    | _, _ => False)
  rw [kwc_at]
  show vEs V_law17 _ ρ E fun us => vEs V_law17 _ ρ E fun ws => us.length = 3 ∧ ws.length = 1 ∧ vsp_half (patU _ us ws) E fun ks' us' => Q (.obj 148 ks' us')
  refine ix 0 (ru g.p) ⟨_, rfl, ?_⟩
  refine ix 1 (ru g.q) ⟨_, rfl, ?_⟩
  refine ix 2 (ru g.r) ⟨_, rfl, ?_⟩
  refine ix 3 (.bl g.st) ⟨_, rfl, ?_⟩
  exact ⟨rfl, rfl, Or.inl ⟨g, rfl, z, q⟩⟩
theorem set_raw {V : VM} {i : Nat} {e : Ex} {r : Sms} {ρ : EnS} {K : KV} (hf : exFresh e = false) (q : vE V e (seeF false (mE e) 0 ρ) (fun x => K.ex x (frz ρ)) fun u => vSs V r ((aft (mE e) (flF e u) ρ).set i (slotF e u)) K) : vSs V (.cons (.set i e) r) ρ K := q
theorem part2 {h g : HalfR} {x2 x5 x7 x8 : Sl} {K : KV} (zh : Hz 42 h) (zg : Hz 42 g) (go : ∀ x8, K.nx [.no, .fz .hand, x2, .fz (uhf h), .fz (uhf g), x5, .fz (mdU h), x7, x8]) : vSs V_law17 (tlS (tlS (tlS (tlS (tlS (tlS (tlS (tlS b_law17)))))))) [.no, .fz .hand, x2, .fz (uhf h), .fz (uhf g), x5, .fz (mdU h), x7, x8] K := by
  have z2 : Hz 200 h := zh.up (by decide)
  have zg2 : Hz 200 g := zg.up (by decide)
  have key : ∀ {E : EU} {Q : QU}, Q (mdU g) → vE V_law17 e_mkk (seeF false (mE e_mkk) 0 [.no, .fz .hand, x2, .fz (uhf h), .fz (uhf g), x5, .fz (mdU h), x7, x8]) E Q := fun q => mkk_g zg2 rfl q
  refine set_raw rfl (key ?_)
  show vSs V_law17 (tlS (tlS (tlS (tlS (tlS (tlS (tlS (tlS (tlS b_law17))))))))) [.no, .fz .hand, x2, .fz (uhf h), .fz (uhf g), x5, .fz (mdU h), x7, .fz (mdU g)] K
  refine cV1 rfl ⟨h, rfl, zh, fun ps hp hz => ?_⟩
  refine cV1 rfl ⟨h, ps, rfl, zh, by omega, hz, true, rfl, iteF ?_⟩
  refine cV1 rfl ⟨g, rfl, zg, fun ps2 hp2 hz2 => ?_⟩
  refine cV1 rfl ⟨g, ps2, rfl, zg, by omega, hz2, true, rfl, iteF ?_⟩
  refine cV1 rfl ⟨h, g, rfl, zh, zg, true, rfl, ?_⟩
  refine cV1 rfl ⟨h, rfl, z2, true, rfl, iteF ?_⟩
  exact go _
theorem v_B17 {K : KV} (q : K.rt (.bl true)) : vSs V_law17 s_B17 [.no, .fz .hand, .no, .no, .no, .no, .no, .no, .no] K := by
  refine ⟨rfl, sml_of (by decide) (by decide), ?_⟩
  refine rng_loop (n := 4) (fun k ρ => ∃ x2 x3 x4 x5 x6 x7 x8, ρ = [.no, .fz .hand, x2, x3, x4, x5, x6, x7, x8]) ?_ ?_ ⟨.no, .no, .no, .no, .no, .no, .no, rfl⟩
  · rintro k hk ρ ⟨x2, x3, x4, x5, x6, x7, x8, rfl⟩ nx ct bk go
    refine cV1 rfl ⟨rfl, fun h zh => ?_⟩
    refine cV1 rfl ⟨rfl, fun g zg => ?_⟩
    have z2 : Hz 200 h := zh.up (by decide)
    have zg2 : Hz 200 g := zg.up (by decide)
    refine cV1 rfl ⟨h, rfl, zh, true, rfl, iteF ?_⟩
    refine cV1 rfl ⟨uhf h, ru h.p, ru h.q, ru h.r, .bl h.st, rfl, rfl, rfl, rfl, rfl, rfl, .inl ⟨h, rfl, z2, ?_⟩⟩
    refine ⟨_, rfl, _, rfl, iteF ?_⟩
    refine ⟨_, rfl, ?_⟩
    refine ⟨by decide, by decide, _, rfl, _, rfl, _, rfl, ?_⟩
    refine ⟨rfl, ?_⟩
    change vsp_half [ru h.p, ru h.q, ru h.r, .bl false] _ _
    refine Or.inl ⟨clo h, rfl, hz_clo z2, ?_⟩
    refine ⟨rfl, _, rfl, _, rfl, ?_⟩
    refine cV1 rfl ⟨h, rfl, z2, true, rfl, iteF ?_⟩
    exact part2 zh zg fun x8' => go _ ⟨_, _, _, _, _, _, _, rfl⟩
  · rintro ρ ⟨x2, x3, x4, x5, x6, x7, x8, rfl⟩
    exact q
structure Law17 (Γ : Gm) (cl : Nat → Addr) : Prop where
  h20 : Γ.gv 20 = .fn 1 sp_law_hand []
  r : VRel cl Γ V_law17
theorem law_in {Γ : Gm} {rest : Sms} {a : Addr} {M : Mm} {E : EK} {Q : QD} (h : callD (Γ.gv 20) 1 [.ref a] M (fun x M' => E x M') fun d M' => evSs Γ rest ([some (.ref a), none, none, none, none, none, none, none, none].set 1 (some d)) M' { nx := fun _ M' => Q .non M', rt := Q, ex := fun x _ M' => E x M' }) :
    bodyD Γ 9 (.cons (.set 1 (.call 20 (.cons (.var 0) .nil))) rest) [.ref a] M E Q := h
theorem m17_eq : m_law17 = .cons (.set 1 (.call 20 (.cons (.var 0) .nil))) s_B17 := rfl
theorem pure_law17 {cl : Nat → Addr} {Γ : Gm} (g : Law17 Γ cl) : ∀ ds M E Q, ds.length = 1 → spLawD ds M E Q → bodyD Γ 9 m_law17 ds M E Q := by
  rintro ds M E Q hl ⟨a, ns, rfl, hn, hb, hM, _, q⟩
  rw [m17_eq]
  refine law_in ?_
  refine call1' g.h20 ⟨a, ns, rfl, hn, fun z hz => bits_log4 (hb z hz), hM, fun h M1 H1 => ?_⟩
  obtain ⟨c, i, r, t, cells, c1, c2, c3, c4, c5, c6⟩ := H1
  have hw : Wd ⟨cl, some ⟨h, c⟩⟩ (fun _ => none) M1 := ⟨fun a o e => (by cases e), fun q' e => (by cases e; exact ⟨i, r, t, cells, c1, c2, c3, c4, c5, c6⟩), fun q' e => ⟨rfl, rfl⟩⟩
  have hB := v_B17 (K := { nx := fun _ => False, rt := fun u => u = .bl true }) rfl
  have at2 : ∀ (i : Nat) (s : Sl), ([.no, .fz .hand, .no, .no, .no, .no, .no, .no, .no] : EnS)[i]? = some s → (i = 1 ∧ s = .fz .hand) ∨ s = .no := fun i s e => by
    match i, e with
    | 0, e => cases e; exact .inr rfl
    | 1, e => cases e; exact .inl ⟨rfl, rfl⟩
    | 2, e => cases e; exact .inr rfl
    | 3, e => cases e; exact .inr rfl
    | 4, e => cases e; exact .inr rfl
    | 5, e => cases e; exact .inr rfl
    | 6, e => cases e; exact .inr rfl
    | 7, e => cases e; exact .inr rfl
    | 8, e => cases e; exact .inr rfl
    | i + 9, e => cases e
  refine sSs s_B17 g.r (P := ⟨cl, some ⟨h, c⟩⟩) (sf := none) (N0 := fun _ => none) (B := M1) (L := fun _ => none) (oa := fun _ => h) (ρ := [.no, .fz .hand, .no, .no, .no, .no, .no, .no, .no]) (fun i x e => (by cases e)) hB ⟨⟨hw, Mm.le_refl _, fun a o _ _ e => e, fun _ e _ => e, fun _ e => (by cases e)⟩, rfl, fun i s e => ?_, fun i j s t e1 e2 o1 o2 hij => ?_, fun i s e o q' hq => ?_, fun i vs e => ?_, fun i g ks vs e => ?_, fun i x e => (by cases e)⟩ (Mm.le_refl _) ⟨fun _ _ _ _ _ _ _ z => z.elim, ?_, fun _ _ _ _ _ _ _ z => z.elim, fun _ _ _ _ _ _ _ z => z.elim, fun _ _ _ _ _ _ _ _ _ _ z => z.elim⟩
  · rcases at2 i s e with ⟨rfl, rfl⟩ | rfl
    · exact ⟨.ref h, rfl, .hand (q := ⟨h, c⟩) rfl⟩
    · exact trivial
  · rcases at2 i s e1 with ⟨rfl, rfl⟩ | rfl <;> cases o1
  · rcases at2 i s e with ⟨rfl, rfl⟩ | rfl <;> cases o
  · rcases at2 i _ e with ⟨_, h⟩ | h <;> cases h
  · rcases at2 i _ e with ⟨_, h⟩ | h <;> cases h
  · rintro u d N1 M3 S ru rfl
    cases ru
    exact q M3
end VK
namespace VK
open PySem PySem.Spec L2 DL LW VL VW
section
variable {cl : Nat → Addr} {g : Nat}
theorem gk_clad {C : Addr} {n : Nat} {sp : VSi} {b : Bool} (h : C = cl g) : VGok cl g (.cla C (some (n, LSi cl g sp, [.bl b]))) (.cla (some (n, sp, [.bl b]))) := ⟨h, rfl, fun _ _ => .cons (.bl _) .nil, fun _ _ _ _ h => h⟩
theorem pr_own {Γ : Gm} {f : Str} {sp : VSp} (h : Γ.pr g f = some (LSp cl sp)) : ∃ sp', Γ.pr g f = some sp' ∧ ∀ ds M E Q, LSp cl sp ds M E Q → sp' ds M E Q := ⟨_, h, fun _ _ _ _ h => h⟩
theorem rel17 {Γ : Gm} (T : VRel cl Γ V_l17) (hk : Γ.kwc 148 3 [(Str.ofString "strict")] = some [.inl 0, .inl 1, .inl 2, .inl 3]) : VRel cl Γ V_law17 := { T with
  kwc := fun g n ks pat h => by
    have h : kwc17 g n ks = some pat := h
    unfold kwc17 at h
    split at h
    · rename_i c
      obtain ⟨rfl, rfl, rfl⟩ := c
      cases h
      refine ⟨_, hk, fun P N us ws ds es r1 r2 => ?_⟩
      have r := r1.append r2
      have ix : ∀ i : Nat, RU P N ((us ++ ws).getD i .non) ((ds ++ es).getD i .non) := fun i => by
        rw [List.getD_eq_getElem?_getD, List.getD_eq_getElem?_getD]
        cases e : (us ++ ws)[i]? with
        | none =>
          have e2 : (ds ++ es)[i]? = none := List.getElem?_eq_none (by have := List.getElem?_eq_none_iff.mp e; have := r.length; omega)
          rw [e2]
          exact .non
        | some u =>
          obtain ⟨d, h1, h2⟩ := r.get e
          rw [h1]
          exact h2
      exact .cons (ix 0) (.cons (ix 1) (.cons (ix 2) (.cons (ix 3) .nil)))
    · cases h }
end
end VK
namespace DL
open PySem PySem.Spec L2
theorem PrD.funD {K : PySem.W.Frag} {p : PrD} (e : fnA K (p.ad K) = p.d.val) (c : p.ok K = true) : ∃ fd, FunD K p.d.name p.d.qual p.d.params p.d.body p.d.scope (p.d.dvs K) (p.d.kws K) (p.ad K) fd := by
  obtain ⟨kp, c⟩ := Bool.and_eq_true_iff.mp c
  unfold fnA at e
  cases q : K.lookup (p.ad K) with
  | none => rw [q] at c; cases c
  | some o =>
    rw [q] at c e
    rcases o with ⟨o1, o2, o3, o4⟩
    cases o3 with
    | func z =>
      rcases z with ⟨z1, z2, z3, z4, z5, z6, z7, z8, z9, z10, z11, z12, z13, z14, z15⟩
      have e' := Option.some.inj (show (some (z1, z2, z3, z4, z5, z6, z7, z15) : He.FnW) = p.d.val from e)
      simp only [Prod.mk.injEq] at e'
      obtain ⟨f1, f2, f3, f4, f5, f6, f7, f8⟩ := e'
      subst f1 f2 f3 f4 f5 f6 f7 f8
      obtain ⟨t1, t2⟩ := Bool.and_eq_true_iff.mp (show (PySem.W.codeIn K z13 p.d.qual && (He.dflB K z8 (p.d.dvs K) && He.kwdB K z9 (p.d.kws K))) = true from c)
      obtain ⟨t3, t4⟩ := Bool.and_eq_true_iff.mp t2
      exact ⟨_, ⟨o1, o2, z8, z9, z10, z11, z12, z13, z14, o4, rfl, q, t1, He.dflB_ok t3, He.kwdB_ok t4⟩, kp⟩
    | _ => cases c
section
variable {fa : List He.Fa} {fn : List He.DefD} {ps : List PrD} {K : PySem.W.Frag}
theorem SaysQ.fact (c : SaysQ fa fn ps K) (i : Nat) {f : He.Fa} (h : fa[i]? = some f := by rfl) : f.ok K = true := c.d.fact i h
theorem SaysQ.facts (c : SaysQ fa fn ps K) {f : He.Fa} (h : f ∈ fa) : f.ok K = true := c.d.facts h
theorem SaysQ.def_ (c : SaysQ fa fn ps K) (i : Nat) {d : He.DefD} (h : fn[i]? = some d := by rfl) : ∃ fd, FunD K d.name d.qual d.params d.body d.scope (d.dvs K) (d.kws K) (He.fAd K d.at_) fd := c.d.def_ i h
theorem map_at {α β : Type} {f g : α → β} : ∀ {l : List α}, l.map f = l.map g → ∀ a ∈ l, f a = g a
  | [], _, _, h => by cases h
  | x :: l, e, a, h => by
    injection e with e1 e2
    rcases List.mem_cons.mp h with rfl | h
    · exact e1
    · exact map_at e2 a h
theorem SaysQ.prp (c : SaysQ fa fn ps K) (i : Nat) {p : PrD} (h : ps[i]? = some p := by rfl) : ∃ fd, FunD K p.d.name p.d.qual p.d.params p.d.body p.d.scope (p.d.dvs K) (p.d.kws K) (p.ad K) fd := by
  have m := List.mem_of_getElem? h
  have e1 : ps.all (fun p => p.ok K) = true := congrArg (fun z : Bool × List He.FnW => z.1) c.p
  have e2 : ps.map (fun p => fnA K (p.ad K)) = ps.map fun p => p.d.val := congrArg (fun z : Bool × List He.FnW => z.2) c.p
  exact PrD.funD (map_at e2 p m) (List.all_eq_true.mp e1 p m)
end
end DL
namespace LW
open PySem PySem.Spec PyProof.Rows L2 DL
def gnT : List (Str × Option (Nat × Nat)) := [((Str.ofString "ShipError"), none), ((Str.ofString "law"), some (1, 0)), ((Str.ofString "law"), some (1, 0)), ((Str.ofString "law"), some (1, 0)), ((Str.ofString "is_whole"), some (3, 2)), ((Str.ofString "is_ratio"), some (1, 0)), ((Str.ofString "law"), some (1, 0)), ((Str.ofString "lowest"), some (2, 0)), ((Str.ofString "plus"), some (2, 0)), ((Str.ofString "minus"), some (2, 0)), ((Str.ofString "times"), some (2, 0)), ((Str.ofString "law"), some (1, 0)), ((Str.ofString "negative"), some (1, 0)), ((Str.ofString "law"), some (1, 0)), ((Str.ofString "law"), some (1, 0)), ((Str.ofString "law"), some (1, 0)), ((Str.ofString "law"), some (1, 0)), ((Str.ofString "law"), some (1, 0)), ((Str.ofString "law"), some (1, 0)), ((Str.ofString "_law_mix"), some (2, 0)), ((Str.ofString "_law_hand"), some (1, 0)), ((Str.ofString "_law_draw"), some (2, 0)), ((Str.ofString "_law_gcd"), some (2, 0)), ((Str.ofString "_law_ratio"), some (2, 0)), ((Str.ofString "_law_plus"), some (2, 0)), ((Str.ofString "law"), some (1, 0)), ((Str.ofString "_law_times"), some (2, 0)), ((Str.ofString "law"), some (1, 0)), ((Str.ofString "law"), some (1, 0)), ((Str.ofString "law"), some (1, 0)), ((Str.ofString "_law_is_ratio"), some (1, 0)), ((Str.ofString "_law_refused"), some (2, 0)), ((Str.ofString "law"), some (1, 0)), ((Str.ofString "law"), some (1, 0)), ((Str.ofString "law"), some (1, 0)), ((Str.ofString "law"), some (1, 0)), ((Str.ofString "law"), some (1, 0)), ((Str.ofString "law"), some (1, 0)), ((Str.ofString "law"), some (1, 0)), ((Str.ofString "law"), some (1, 0)), ((Str.ofString "law"), some (1, 0)), ((Str.ofString "law"), some (1, 0)), ((Str.ofString "law"), some (1, 0)), ((Str.ofString "law"), some (1, 0)), ((Str.ofString "law"), some (1, 0)), ((Str.ofString "law"), some (1, 0)), ((Str.ofString "law"), some (1, 0)), ((Str.ofString "law"), some (1, 0)), ((Str.ofString "law"), some (1, 0)), ((Str.ofString "_law_pick"), some (2, 0)), ((Str.ofString "law"), some (1, 0)), ((Str.ofString "law"), some (1, 0)), ((Str.ofString "law"), some (1, 0)), ((Str.ofString "law"), some (1, 0)), ((Str.ofString "law"), some (1, 0)), ((Str.ofString "law"), some (1, 0)), ((Str.ofString "law"), some (1, 0)), ((Str.ofString "law"), some (1, 0)), ((Str.ofString "law"), some (1, 0)), ((Str.ofString "law"), some (1, 0)), ((Str.ofString "law"), some (1, 0)), ((Str.ofString "law"), some (1, 0)), ((Str.ofString "law"), some (1, 0)), ((Str.ofString "law"), some (1, 0)), ((Str.ofString "law"), some (1, 0)), ((Str.ofString "_law_told"), some (1, 0)), ((Str.ofString "law"), some (1, 0)), ((Str.ofString "law"), some (1, 0)), ((Str.ofString "law"), some (1, 0)), ((Str.ofString "law"), some (1, 0)), ((Str.ofString "law"), some (1, 0)), ((Str.ofString "law"), some (1, 0)), ((Str.ofString "law"), some (1, 0)), ((Str.ofString "law"), some (1, 0)), ((Str.ofString "law"), some (1, 0)), ((Str.ofString "law"), some (1, 0)), ((Str.ofString "law"), some (1, 0)), ((Str.ofString "law"), some (1, 0)), ((Str.ofString "law"), some (1, 0)), ((Str.ofString "law"), some (1, 0)), ((Str.ofString "law"), some (1, 0)), ((Str.ofString "law"), some (1, 0)), ((Str.ofString "law"), some (1, 0)), ((Str.ofString "law"), some (1, 0)), ((Str.ofString "law"), some (1, 0)), ((Str.ofString "law"), some (1, 0)), ((Str.ofString "law"), some (1, 0)), ((Str.ofString "law"), some (1, 0)), ((Str.ofString "law"), some (1, 0)), ((Str.ofString "law"), some (1, 0)), ((Str.ofString "law"), some (1, 0)), ((Str.ofString "law"), some (1, 0)), ((Str.ofString "law"), some (1, 0)), ((Str.ofString "law"), some (1, 0)), ((Str.ofString "law"), some (1, 0)), ((Str.ofString "law"), some (1, 0)), ((Str.ofString "law"), some (1, 0)), ((Str.ofString "law"), some (1, 0)), ((Str.ofString "law"), some (1, 0)), ((Str.ofString "law"), some (1, 0)), ((Str.ofString "law"), some (1, 0)), ((Str.ofString "law"), some (1, 0)), ((Str.ofString "law"), some (1, 0)), ((Str.ofString "law"), some (1, 0)), ((Str.ofString "law"), some (1, 0)), ((Str.ofString "law"), some (1, 0)), ((Str.ofString "law"), some (1, 0)), ((Str.ofString "law"), some (1, 0)), ((Str.ofString "law"), some (1, 0)), ((Str.ofString "law"), some (1, 0)), ((Str.ofString "law"), some (1, 0)), ((Str.ofString "law"), some (1, 0)), ((Str.ofString "law"), some (1, 0)), ((Str.ofString "law"), some (1, 0)), ((Str.ofString "law"), some (1, 0)), ((Str.ofString "law"), some (1, 0)), ((Str.ofString "law"), some (1, 0)), ((Str.ofString "law"), some (1, 0)), ((Str.ofString "law"), some (1, 0)), ((Str.ofString "law"), some (1, 0)), ((Str.ofString "law"), some (1, 0)), ((Str.ofString "law"), some (1, 0)), ((Str.ofString "law"), some (1, 0)), ((Str.ofString "law"), some (1, 0)), ((Str.ofString "law"), some (1, 0)), ((Str.ofString "law"), some (1, 0)), ((Str.ofString "law"), some (1, 0)), ((Str.ofString "law"), some (1, 0)), ((Str.ofString "law"), some (1, 0)), ((Str.ofString "law"), some (1, 0)), ((Str.ofString "law"), some (1, 0)), ((Str.ofString "law"), some (1, 0)), ((Str.ofString "law"), some (1, 0)), ((Str.ofString "law"), some (1, 0)), ((Str.ofString "law"), some (1, 0)), ((Str.ofString "law"), some (1, 0)), ((Str.ofString "law"), some (1, 0)), ((Str.ofString "law"), some (1, 0)), ((Str.ofString "law"), some (1, 0)), ((Str.ofString "law"), some (1, 0)), ((Str.ofString "law"), some (1, 0)), ((Str.ofString "law"), some (1, 0)), ((Str.ofString "law"), some (1, 0)), ((Str.ofString "law"), some (1, 0)), ((Str.ofString "law"), some (1, 0)), ((Str.ofString "law"), some (1, 0)), ((Str.ofString "law"), some (1, 0)), ((Str.ofString "BadHalf"), none), ((Str.ofString "HalfPlane"), none), ((Str.ofString "_row_of"), some (3, 0)), ((Str.ofString "_law_less"), some (2, 0)), ((Str.ofString "_law_is_whole"), some (1, 0)), ((Str.ofString "_law_number"), some (1, 0)), ((Str.ofString "_law_any_ratio"), some (1, 0)), ((Str.ofString "_law_excess"), some (2, 0)), ((Str.ofString "_law_is_in"), some (2, 0)), ((Str.ofString "_law_is_truth"), some (2, 0)), ((Str.ofString "_law_drawn"), some (1, 0)), ((Str.ofString "_law_odd"), some (2, 0)), ((Str.ofString "_law_row"), some (1, 0)), ((Str.ofString "_law_reach"), some (1, 0)), ((Str.ofString "_law_points"), some (2, 0)), ((Str.ofString "_law_fits"), some (2, 0)), ((Str.ofString "_law_is_told"), some (4, 0)), ((Str.ofString "_law_same_points"), some (2, 0)), ((Str.ofString "_law_compared"), some (4, 0))]
def t0 : Tb := { N := [], sc := { kind := .function, names := [], isGenerator := false, isCoroutine := false }, gn := gnT, xn := xnT, gcd := true, lcm := true, fn := true }
def t_law_hand : Tb := { t0 with N := [(Str.ofString "_law_script"), (Str.ofString "_law_total"), (Str.ofString "_law_k"), (Str.ofString "_law_cell")], sc := defScope (top 17) }
theorem ck_law_hand : chkSs t_law_hand m_law_hand (defBody (top 17)) = true := by decide +kernel
theorem sc_law_hand : FnScope t_law_hand.N [(Str.ofString "_law_script")] (defScope (top 17)) := ⟨rfl, rfl, rfl, by decide +kernel, rfl, by decide +kernel, by decide +kernel⟩
def t_law_mix : Tb := { t0 with N := [(Str.ofString "_law_number_here"), (Str.ofString "_law_turn"), (Str.ofString "_law_once"), (Str.ofString "_law_twice")], sc := defScope (top 16) }
theorem ck_law_mix : chkSs t_law_mix m_law_mix (defBody (top 16)) = true := by decide +kernel
theorem sc_law_mix : FnScope t_law_mix.N [(Str.ofString "_law_number_here"), (Str.ofString "_law_turn")] (defScope (top 16)) := ⟨rfl, rfl, rfl, by decide +kernel, rfl, by decide +kernel, by decide +kernel⟩
def t_law_draw : Tb := { t0 with N := [(Str.ofString "_law_hand_here"), (Str.ofString "_law_many"), (Str.ofString "_law_cell"), (Str.ofString "_law_rest")], sc := defScope (top 18) }
theorem ck_law_draw : chkSs t_law_draw m_law_draw (defBody (top 18)) = true := by decide +kernel
theorem sc_law_draw : FnScope t_law_draw.N [(Str.ofString "_law_hand_here"), (Str.ofString "_law_many")] (defScope (top 18)) := ⟨rfl, rfl, rfl, by decide +kernel, rfl, by decide +kernel, by decide +kernel⟩
def t_law_pick : Tb := { t0 with N := [(Str.ofString "_law_hand_here"), (Str.ofString "_law_things")], sc := defScope (top 19) }
theorem ck_law_pick : chkSs t_law_pick m_law_pick17 (defBody (top 19)) = true := by decide +kernel
theorem sc_law_pick : FnScope t_law_pick.N [(Str.ofString "_law_hand_here"), (Str.ofString "_law_things")] (defScope (top 19)) := ⟨rfl, rfl, rfl, by decide +kernel, rfl, by decide +kernel, by decide +kernel⟩
def t_law_number : Tb := { t0 with N := [(Str.ofString "_law_hand_here"), (Str.ofString "_law_kind")], sc := defScope (top 27) }
theorem ck_law_number : chkSs t_law_number m_law_number17 (defBody (top 27)) = true := by decide +kernel
theorem sc_law_number : FnScope t_law_number.N [(Str.ofString "_law_hand_here")] (defScope (top 27)) := ⟨rfl, rfl, rfl, by decide +kernel, rfl, by decide +kernel, by decide +kernel⟩
def t_law_gcd : Tb := { t0 with N := [(Str.ofString "_law_one"), (Str.ofString "_law_other"), (Str.ofString "_law_turn"), (Str.ofString "_law_rest")], sc := defScope (top 20) }
theorem ck_law_gcd : chkSs t_law_gcd m_law_gcd17 (defBody (top 20)) = true := by decide +kernel
theorem sc_law_gcd : FnScope t_law_gcd.N [(Str.ofString "_law_one"), (Str.ofString "_law_other")] (defScope (top 20)) := ⟨rfl, rfl, rfl, by decide +kernel, rfl, by decide +kernel, by decide +kernel⟩
def t_law_ratio : Tb := { t0 with N := [(Str.ofString "_law_top"), (Str.ofString "_law_bottom"), (Str.ofString "_law_share")], sc := defScope (top 21) }
theorem ck_law_ratio : chkSs t_law_ratio m_law_ratio17 (defBody (top 21)) = true := by decide +kernel
theorem sc_law_ratio : FnScope t_law_ratio.N [(Str.ofString "_law_top"), (Str.ofString "_law_bottom")] (defScope (top 21)) := ⟨rfl, rfl, rfl, by decide +kernel, rfl, by decide +kernel, by decide +kernel⟩
def t_law_any_ratio : Tb := { t0 with N := [(Str.ofString "_law_hand_here"), (Str.ofString "_law_top")], sc := defScope (top 28) }
theorem ck_law_any_ratio : chkSs t_law_any_ratio m_law_any_ratio17 (defBody (top 28)) = true := by decide +kernel
theorem sc_law_any_ratio : FnScope t_law_any_ratio.N [(Str.ofString "_law_hand_here")] (defScope (top 28)) := ⟨rfl, rfl, rfl, by decide +kernel, rfl, by decide +kernel, by decide +kernel⟩
def t_law_drawn : Tb := { t0 with N := [(Str.ofString "_law_hand_here"), (Str.ofString "_law_p"), (Str.ofString "_law_q"), (Str.ofString "_law_r")], sc := defScope (top 32) }
theorem ck_law_drawn : chkSs t_law_drawn m_law_drawn17 (defBody (top 32)) = true := by decide +kernel
theorem sc_law_drawn : FnScope t_law_drawn.N [(Str.ofString "_law_hand_here")] (defScope (top 32)) := ⟨rfl, rfl, rfl, by decide +kernel, rfl, by decide +kernel, by decide +kernel⟩
def t_row_of : Tb := { t0 with N := [(Str.ofString "p"), (Str.ofString "q"), (Str.ofString "r"), (Str.ofString "bottom"), (Str.ofString "row"), (Str.ofString "common"), (Str.ofString "below"), (Str.ofString "top"), (Str.ofString "number")], sc := defScope (top 14) }
theorem ck_row_of : chkSs t_row_of m_row_of (defBody (top 14)) = true := by decide +kernel
theorem sc_row_of : FnScope t_row_of.N [(Str.ofString "p"), (Str.ofString "q"), (Str.ofString "r")] (defScope (top 14)) := ⟨rfl, rfl, rfl, by decide +kernel, rfl, by decide +kernel, by decide +kernel⟩
def t_is_whole : Tb := { t0 with N := [(Str.ofString "thing"), (Str.ofString "low"), (Str.ofString "high")], sc := defScope (top 5) }
theorem ck_is_whole : chkSs t_is_whole m_is_whole (defBody (top 5)) = true := by decide +kernel
theorem sc_is_whole : FnScope t_is_whole.N [(Str.ofString "thing"), (Str.ofString "low"), (Str.ofString "high")] (defScope (top 5)) := ⟨rfl, rfl, rfl, by decide +kernel, rfl, by decide +kernel, by decide +kernel⟩
def t_is_ratio : Tb := { t0 with N := [(Str.ofString "thing")], sc := defScope (top 6) }
theorem ck_is_ratio : chkSs t_is_ratio m_is_ratio (defBody (top 6)) = true := by decide +kernel
theorem sc_is_ratio : FnScope t_is_ratio.N [(Str.ofString "thing")] (defScope (top 6)) := ⟨rfl, rfl, rfl, by decide +kernel, rfl, by decide +kernel, by decide +kernel⟩
def t_HalfPlane_init : Tb := { t0 with N := [(Str.ofString "self"), (Str.ofString "p"), (Str.ofString "q"), (Str.ofString "r"), (Str.ofString "strict"), (Str.ofString "what"), (Str.ofString "number")], sc := defScope (mth 13 0) }
theorem ck_HalfPlane_init : chkSs t_HalfPlane_init m_HalfPlane_init (defBody (mth 13 0)) = true := by decide +kernel
theorem sc_HalfPlane_init : FnScope t_HalfPlane_init.N [(Str.ofString "self"), (Str.ofString "p"), (Str.ofString "q"), (Str.ofString "r"), (Str.ofString "strict")] (defScope (mth 13 0)) := ⟨rfl, rfl, rfl, by decide +kernel, rfl, by decide +kernel, by decide +kernel⟩
def t_law_told : Tb := { t0 with N := [(Str.ofString "_law_parts"), (Str.ofString "_law_made"), (Str.ofString "e")], sc := defScope (top 34) }
theorem ck_law_told : chkSs t_law_told m_law_told17 (defBody (top 34)) = true := by decide +kernel
theorem sc_law_told : FnScope t_law_told.N [(Str.ofString "_law_parts")] (defScope (top 34)) := ⟨rfl, rfl, rfl, by decide +kernel, rfl, by decide +kernel, by decide +kernel⟩
def t_law_odd : Tb := { t0 with N := [(Str.ofString "_law_hand_here"), (Str.ofString "_law_place"), (Str.ofString "_law_odd_here")], sc := defScope (top 33) }
theorem ck_law_odd : chkSs t_law_odd m_law_odd17 (defBody (top 33)) = true := by decide +kernel
theorem sc_law_odd : FnScope t_law_odd.N [(Str.ofString "_law_hand_here"), (Str.ofString "_law_place")] (defScope (top 33)) := ⟨rfl, rfl, rfl, by decide +kernel, rfl, by decide +kernel, by decide +kernel⟩
def t_law_refused : Tb := { t0 with N := [(Str.ofString "_law_hand_here"), (Str.ofString "_law_half"), (Str.ofString "_law_parts"), (Str.ofString "_law_words"), (Str.ofString "_law_due"), (Str.ofString "_law_place"), (Str.ofString "_law_told_here")], sc := defScope (top 35) }
theorem ck_law_refused : chkSs t_law_refused m_law_refused17 (defBody (top 35)) = true := by decide +kernel
theorem sc_law_refused : FnScope t_law_refused.N [(Str.ofString "_law_hand_here"), (Str.ofString "_law_half")] (defScope (top 35)) := ⟨rfl, rfl, rfl, by decide +kernel, rfl, by decide +kernel, by decide +kernel⟩
def t_negative : Tb := { t0 with N := [(Str.ofString "one")], sc := defScope (top 11) }
theorem ck_negative : chkSs t_negative m_negative (defBody (top 11)) = true := by decide +kernel
theorem sc_negative : FnScope t_negative.N [(Str.ofString "one")] (defScope (top 11)) := ⟨rfl, rfl, rfl, by decide +kernel, rfl, by decide +kernel, by decide +kernel⟩
def t_HalfPlane_opposite : Tb := { t0 with N := [(Str.ofString "self")], sc := defScope (mth 13 5) }
theorem ck_HalfPlane_opposite : chkSs t_HalfPlane_opposite m_HalfPlane_opposite (defBody (mth 13 5)) = true := by decide +kernel
theorem sc_HalfPlane_opposite : FnScope t_HalfPlane_opposite.N [(Str.ofString "self")] (defScope (mth 13 5)) := ⟨rfl, rfl, rfl, by decide +kernel, rfl, by decide +kernel, by decide +kernel⟩
def t_HalfPlane_eq : Tb := { t0 with N := [(Str.ofString "self"), (Str.ofString "other")], sc := defScope (mth 13 1) }
theorem ck_HalfPlane_eq : chkSs t_HalfPlane_eq m_HalfPlane_eq (defBody (mth 13 1)) = true := by decide +kernel
theorem sc_HalfPlane_eq : FnScope t_HalfPlane_eq.N [(Str.ofString "self"), (Str.ofString "other")] (defScope (mth 13 1)) := ⟨rfl, rfl, rfl, by decide +kernel, rfl, by decide +kernel, by decide +kernel⟩
def t_lowest : Tb := { t0 with N := [(Str.ofString "top"), (Str.ofString "bottom"), (Str.ofString "common")], sc := defScope (top 7) }
theorem ck_lowest : chkSs t_lowest m_lowest (defBody (top 7)) = true := by decide +kernel
theorem sc_lowest : FnScope t_lowest.N [(Str.ofString "top"), (Str.ofString "bottom")] (defScope (top 7)) := ⟨rfl, rfl, rfl, by decide +kernel, rfl, by decide +kernel, by decide +kernel⟩
def t_minus : Tb := { t0 with N := [(Str.ofString "one"), (Str.ofString "other")], sc := defScope (top 9) }
theorem ck_minus : chkSs t_minus m_minus (defBody (top 9)) = true := by decide +kernel
theorem sc_minus : FnScope t_minus.N [(Str.ofString "one"), (Str.ofString "other")] (defScope (top 9)) := ⟨rfl, rfl, rfl, by decide +kernel, rfl, by decide +kernel, by decide +kernel⟩
def t_plus : Tb := { t0 with N := [(Str.ofString "one"), (Str.ofString "other")], sc := defScope (top 8) }
theorem ck_plus : chkSs t_plus m_plus (defBody (top 8)) = true := by decide +kernel
theorem sc_plus : FnScope t_plus.N [(Str.ofString "one"), (Str.ofString "other")] (defScope (top 8)) := ⟨rfl, rfl, rfl, by decide +kernel, rfl, by decide +kernel, by decide +kernel⟩
def t_times : Tb := { t0 with N := [(Str.ofString "one"), (Str.ofString "other")], sc := defScope (top 10) }
theorem ck_times : chkSs t_times m_times (defBody (top 10)) = true := by decide +kernel
theorem sc_times : FnScope t_times.N [(Str.ofString "one"), (Str.ofString "other")] (defScope (top 10)) := ⟨rfl, rfl, rfl, by decide +kernel, rfl, by decide +kernel, by decide +kernel⟩
def t_HalfPlane_excess_at : Tb := { t0 with N := [(Str.ofString "self"), (Str.ofString "cargo"), (Str.ofString "weight"), (Str.ofString "moment")], sc := defScope (mth 13 4) }
theorem ck_HalfPlane_excess_at : chkSs t_HalfPlane_excess_at m_HalfPlane_excess_at (defBody (mth 13 4)) = true := by decide +kernel
theorem sc_HalfPlane_excess_at : FnScope t_HalfPlane_excess_at.N [(Str.ofString "self"), (Str.ofString "cargo")] (defScope (mth 13 4)) := ⟨rfl, rfl, rfl, by decide +kernel, rfl, by decide +kernel, by decide +kernel⟩
def t_HalfPlane_closed : Tb := { t0 with N := [(Str.ofString "self")], sc := defScope (mth 13 6) }
theorem ck_HalfPlane_closed : chkSs t_HalfPlane_closed m_HalfPlane_closed (defBody (mth 13 6)) = true := by decide +kernel
theorem sc_HalfPlane_closed : FnScope t_HalfPlane_closed.N [(Str.ofString "self")] (defScope (mth 13 6)) := ⟨rfl, rfl, rfl, by decide +kernel, rfl, by decide +kernel, by decide +kernel⟩
def t_law_is_truth : Tb := { t0 with N := [(Str.ofString "_law_told_here"), (Str.ofString "_law_due")], sc := defScope (top 31) }
theorem ck_law_is_truth : chkSs t_law_is_truth m_law_is_truth17 (defBody (top 31)) = true := by decide +kernel
theorem sc_law_is_truth : FnScope t_law_is_truth.N [(Str.ofString "_law_told_here"), (Str.ofString "_law_due")] (defScope (top 31)) := ⟨rfl, rfl, rfl, by decide +kernel, rfl, by decide +kernel, by decide +kernel⟩
def t_law_row : Tb := { t0 with N := [(Str.ofString "_law_half"), (Str.ofString "_law_bottom"), (Str.ofString "_law_row_here"), (Str.ofString "_law_share"), (Str.ofString "_law_part"), (Str.ofString "_law_number_here")], sc := defScope (top 36) }
theorem ck_law_row : chkSs t_law_row m_law_row17 (defBody (top 36)) = true := by decide +kernel
theorem sc_law_row : FnScope t_law_row.N [(Str.ofString "_law_half")] (defScope (top 36)) := ⟨rfl, rfl, rfl, by decide +kernel, rfl, by decide +kernel, by decide +kernel⟩
def t_HalfPlane_reach : Tb := { t0 with N := [(Str.ofString "self"), (Str.ofString "p"), (Str.ofString "q"), (Str.ofString "r")], sc := defScope (mth 13 2) }
theorem ck_HalfPlane_reach : chkSs t_HalfPlane_reach m_HalfPlane_reach (defBody (mth 13 2)) = true := by decide +kernel
theorem sc_HalfPlane_reach : FnScope t_HalfPlane_reach.N [(Str.ofString "self")] (defScope (mth 13 2)) := ⟨rfl, rfl, rfl, by decide +kernel, rfl, by decide +kernel, by decide +kernel⟩
def t_law_reach : Tb := { t0 with N := [(Str.ofString "_law_half")], sc := defScope (top 37) }
theorem ck_law_reach : chkSs t_law_reach m_law_reach17 (defBody (top 37)) = true := by decide +kernel
theorem sc_law_reach : FnScope t_law_reach.N [(Str.ofString "_law_half")] (defScope (top 37)) := ⟨rfl, rfl, rfl, by decide +kernel, rfl, by decide +kernel, by decide +kernel⟩
def t_law_is_whole : Tb := { t0 with N := [(Str.ofString "_law_thing")], sc := defScope (top 25) }
theorem ck_law_is_whole : chkSs t_law_is_whole m_law_is_whole17 (defBody (top 25)) = true := by decide +kernel
theorem sc_law_is_whole : FnScope t_law_is_whole.N [(Str.ofString "_law_thing")] (defScope (top 25)) := ⟨rfl, rfl, rfl, by decide +kernel, rfl, by decide +kernel, by decide +kernel⟩
def t_law_is_ratio : Tb := { t0 with N := [(Str.ofString "_law_thing")], sc := defScope (top 26) }
theorem ck_law_is_ratio : chkSs t_law_is_ratio m_law_is_ratio17 (defBody (top 26)) = true := by decide +kernel
theorem sc_law_is_ratio : FnScope t_law_is_ratio.N [(Str.ofString "_law_thing")] (defScope (top 26)) := ⟨rfl, rfl, rfl, by decide +kernel, rfl, by decide +kernel, by decide +kernel⟩
def t_law_fits : Tb := { t0 with N := [(Str.ofString "_law_made"), (Str.ofString "_law_half"), (Str.ofString "_law_row_here"), (Str.ofString "_law_part"), (Str.ofString "_law_number_here")], sc := defScope (top 39) }
theorem ck_law_fits : chkSs t_law_fits m_law_fits17 (defBody (top 39)) = true := by decide +kernel
theorem sc_law_fits : FnScope t_law_fits.N [(Str.ofString "_law_made"), (Str.ofString "_law_half")] (defScope (top 39)) := ⟨rfl, rfl, rfl, by decide +kernel, rfl, by decide +kernel, by decide +kernel⟩
def t_law_less : Tb := { t0 with N := [(Str.ofString "_law_one"), (Str.ofString "_law_other")], sc := defScope (top 24) }
theorem ck_law_less : chkSs t_law_less m_law_less17 (defBody (top 24)) = true := by decide +kernel
theorem sc_law_less : FnScope t_law_less.N [(Str.ofString "_law_one"), (Str.ofString "_law_other")] (defScope (top 24)) := ⟨rfl, rfl, rfl, by decide +kernel, rfl, by decide +kernel, by decide +kernel⟩
def t_law_plus : Tb := { t0 with N := [(Str.ofString "_law_one"), (Str.ofString "_law_other")], sc := defScope (top 22) }
theorem ck_law_plus : chkSs t_law_plus m_law_plus17 (defBody (top 22)) = true := by decide +kernel
theorem sc_law_plus : FnScope t_law_plus.N [(Str.ofString "_law_one"), (Str.ofString "_law_other")] (defScope (top 22)) := ⟨rfl, rfl, rfl, by decide +kernel, rfl, by decide +kernel, by decide +kernel⟩
def t_law_times : Tb := { t0 with N := [(Str.ofString "_law_one"), (Str.ofString "_law_other")], sc := defScope (top 23) }
theorem ck_law_times : chkSs t_law_times m_law_times17 (defBody (top 23)) = true := by decide +kernel
theorem sc_law_times : FnScope t_law_times.N [(Str.ofString "_law_one"), (Str.ofString "_law_other")] (defScope (top 23)) := ⟨rfl, rfl, rfl, by decide +kernel, rfl, by decide +kernel, by decide +kernel⟩
def t_law_excess : Tb := { t0 with N := [(Str.ofString "_law_half"), (Str.ofString "_law_point")], sc := defScope (top 29) }
theorem ck_law_excess : chkSs t_law_excess m_law_excess17 (defBody (top 29)) = true := by decide +kernel
theorem sc_law_excess : FnScope t_law_excess.N [(Str.ofString "_law_half"), (Str.ofString "_law_point")] (defScope (top 29)) := ⟨rfl, rfl, rfl, by decide +kernel, rfl, by decide +kernel, by decide +kernel⟩
def t_HalfPlane_holds_cargo : Tb := { t0 with N := [(Str.ofString "self"), (Str.ofString "cargo"), (Str.ofString "p"), (Str.ofString "q"), (Str.ofString "r"), (Str.ofString "weight"), (Str.ofString "below"), (Str.ofString "moment"), (Str.ofString "under"), (Str.ofString "excess")], sc := defScope (mth 13 3) }
theorem ck_HalfPlane_holds_cargo : chkSs t_HalfPlane_holds_cargo m_HalfPlane_holds_cargo (defBody (mth 13 3)) = true := by decide +kernel
theorem sc_HalfPlane_holds_cargo : FnScope t_HalfPlane_holds_cargo.N [(Str.ofString "self"), (Str.ofString "cargo")] (defScope (mth 13 3)) := ⟨rfl, rfl, rfl, by decide +kernel, rfl, by decide +kernel, by decide +kernel⟩
def t_law_is_in : Tb := { t0 with N := [(Str.ofString "_law_half"), (Str.ofString "_law_point"), (Str.ofString "_law_top")], sc := defScope (top 30) }
theorem ck_law_is_in : chkSs t_law_is_in m_law_is_in17 (defBody (top 30)) = true := by decide +kernel
theorem sc_law_is_in : FnScope t_law_is_in.N [(Str.ofString "_law_half"), (Str.ofString "_law_point")] (defScope (top 30)) := ⟨rfl, rfl, rfl, by decide +kernel, rfl, by decide +kernel, by decide +kernel⟩
def t_law_is_told : Tb := { t0 with N := [(Str.ofString "_law_hand_here"), (Str.ofString "_law_made"), (Str.ofString "_law_half"), (Str.ofString "_law_points_here"), (Str.ofString "_law_turned"), (Str.ofString "_law_closed"), (Str.ofString "_law_opposite"), (Str.ofString "_law_point"), (Str.ofString "_law_told_here"), (Str.ofString "_law_excess_here"), (Str.ofString "_law_part")], sc := defScope (top 40) }
theorem ck_law_is_told : chkSs t_law_is_told m_law_is_told17 (defBody (top 40)) = true := by decide +kernel
theorem sc_law_is_told : FnScope t_law_is_told.N [(Str.ofString "_law_hand_here"), (Str.ofString "_law_made"), (Str.ofString "_law_half"), (Str.ofString "_law_points_here")] (defScope (top 40)) := ⟨rfl, rfl, rfl, by decide +kernel, rfl, by decide +kernel, by decide +kernel⟩
def t_law_points : Tb := { t0 with N := [(Str.ofString "_law_hand_here"), (Str.ofString "_law_half"), (Str.ofString "_law_found"), (Str.ofString "_law_free"), (Str.ofString "_law_rest"), (Str.ofString "_law_turned"), (Str.ofString "_law_k")], sc := defScope (top 38) }
theorem ck_law_points : chkSs t_law_points m_law_points17 (defBody (top 38)) = true := by decide +kernel
theorem sc_law_points : FnScope t_law_points.N [(Str.ofString "_law_hand_here"), (Str.ofString "_law_half")] (defScope (top 38)) := ⟨rfl, rfl, rfl, by decide +kernel, rfl, by decide +kernel, by decide +kernel⟩
def t_HalfPlane_is_same : Tb := { t0 with N := [(Str.ofString "self"), (Str.ofString "other")], sc := defScope (mth 13 7) }
theorem ck_HalfPlane_is_same : chkSs t_HalfPlane_is_same m_HalfPlane_is_same (defBody (mth 13 7)) = true := by decide +kernel
theorem sc_HalfPlane_is_same : FnScope t_HalfPlane_is_same.N [(Str.ofString "self"), (Str.ofString "other")] (defScope (mth 13 7)) := ⟨rfl, rfl, rfl, by decide +kernel, rfl, by decide +kernel, by decide +kernel⟩
def t_law_same_points : Tb := { t0 with N := [(Str.ofString "_law_one"), (Str.ofString "_law_other")], sc := defScope (top 41) }
theorem ck_law_same_points : chkSs t_law_same_points m_law_same_points17 (defBody (top 41)) = true := by decide +kernel
theorem sc_law_same_points : FnScope t_law_same_points.N [(Str.ofString "_law_one"), (Str.ofString "_law_other")] (defScope (top 41)) := ⟨rfl, rfl, rfl, by decide +kernel, rfl, by decide +kernel, by decide +kernel⟩
def t_law_compared : Tb := { t0 with N := [(Str.ofString "_law_hand_here"), (Str.ofString "_law_made"), (Str.ofString "_law_half"), (Str.ofString "_law_other"), (Str.ofString "_law_size"), (Str.ofString "_law_larger"), (Str.ofString "_law_near"), (Str.ofString "_law_place"), (Str.ofString "_law_parts"), (Str.ofString "_law_beside"), (Str.ofString "_law_part")], sc := defScope (top 42) }
theorem ck_law_compared : chkSs t_law_compared m_law_compared17 (defBody (top 42)) = true := by decide +kernel
theorem sc_law_compared : FnScope t_law_compared.N [(Str.ofString "_law_hand_here"), (Str.ofString "_law_made"), (Str.ofString "_law_half"), (Str.ofString "_law_other")] (defScope (top 42)) := ⟨rfl, rfl, rfl, by decide +kernel, rfl, by decide +kernel, by decide +kernel⟩
def t_law : Tb := { t0 with N := [(Str.ofString "_law_script"), (Str.ofString "_law_hand_here"), (Str.ofString "_law_turn"), (Str.ofString "_law_half"), (Str.ofString "_law_other"), (Str.ofString "_law_told_here"), (Str.ofString "_law_made"), (Str.ofString "_law_plain"), (Str.ofString "_law_second")], sc := defScope (top 43) }
theorem ck_law : chkSs t_law m_law17 (defBody (top 43)) = true := by decide +kernel
theorem sc_law : FnScope t_law.N [(Str.ofString "_law_script")] (defScope (top 43)) := ⟨rfl, rfl, rfl, by decide +kernel, rfl, by decide +kernel, by decide +kernel⟩
def gv0 (K : PySem.W.Frag) : Nat → GV
  | 0 => .cls (He.ga K "ShipError")
  | 1 => .fn 1 spNo []
  | 2 => .fn 1 spNo []
  | 3 => .fn 1 spNo []
  | 4 => .fn 3 spNo [.non, .non]
  | 5 => .fn 1 spNo []
  | 6 => .fn 1 spNo []
  | 7 => .fn 2 spNo []
  | 8 => .fn 2 spNo []
  | 9 => .fn 2 spNo []
  | 10 => .fn 2 spNo []
  | 11 => .fn 1 spNo []
  | 12 => .fn 1 spNo []
  | 13 => .fn 1 spNo []
  | 14 => .fn 1 spNo []
  | 15 => .fn 1 spNo []
  | 16 => .fn 1 spNo []
  | 17 => .fn 1 spNo []
  | 18 => .fn 1 spNo []
  | 19 => .fn 2 spNo []
  | 20 => .fn 1 spNo []
  | 21 => .fn 2 spNo []
  | 22 => .fn 2 spNo []
  | 23 => .fn 2 spNo []
  | 24 => .fn 2 spNo []
  | 25 => .fn 1 spNo []
  | 26 => .fn 2 spNo []
  | 27 => .fn 1 spNo []
  | 28 => .fn 1 spNo []
  | 29 => .fn 1 spNo []
  | 30 => .fn 1 spNo []
  | 31 => .fn 2 spNo []
  | 32 => .fn 1 spNo []
  | 33 => .fn 1 spNo []
  | 34 => .fn 1 spNo []
  | 35 => .fn 1 spNo []
  | 36 => .fn 1 spNo []
  | 37 => .fn 1 spNo []
  | 38 => .fn 1 spNo []
  | 39 => .fn 1 spNo []
  | 40 => .fn 1 spNo []
  | 41 => .fn 1 spNo []
  | 42 => .fn 1 spNo []
  | 43 => .fn 1 spNo []
  | 44 => .fn 1 spNo []
  | 45 => .fn 1 spNo []
  | 46 => .fn 1 spNo []
  | 47 => .fn 1 spNo []
  | 48 => .fn 1 spNo []
  | 49 => .fn 2 spNo []
  | 50 => .fn 1 spNo []
  | 51 => .fn 1 spNo []
  | 52 => .fn 1 spNo []
  | 53 => .fn 1 spNo []
  | 54 => .fn 1 spNo []
  | 55 => .fn 1 spNo []
  | 56 => .fn 1 spNo []
  | 57 => .fn 1 spNo []
  | 58 => .fn 1 spNo []
  | 59 => .fn 1 spNo []
  | 60 => .fn 1 spNo []
  | 61 => .fn 1 spNo []
  | 62 => .fn 1 spNo []
  | 63 => .fn 1 spNo []
  | 64 => .fn 1 spNo []
  | 65 => .fn 1 spNo []
  | 66 => .fn 1 spNo []
  | 67 => .fn 1 spNo []
  | 68 => .fn 1 spNo []
  | 69 => .fn 1 spNo []
  | 70 => .fn 1 spNo []
  | 71 => .fn 1 spNo []
  | 72 => .fn 1 spNo []
  | 73 => .fn 1 spNo []
  | 74 => .fn 1 spNo []
  | 75 => .fn 1 spNo []
  | 76 => .fn 1 spNo []
  | 77 => .fn 1 spNo []
  | 78 => .fn 1 spNo []
  | 79 => .fn 1 spNo []
  | 80 => .fn 1 spNo []
  | 81 => .fn 1 spNo []
  | 82 => .fn 1 spNo []
  | 83 => .fn 1 spNo []
  | 84 => .fn 1 spNo []
  | 85 => .fn 1 spNo []
  | 86 => .fn 1 spNo []
  | 87 => .fn 1 spNo []
  | 88 => .fn 1 spNo []
  | 89 => .fn 1 spNo []
  | 90 => .fn 1 spNo []
  | 91 => .fn 1 spNo []
  | 92 => .fn 1 spNo []
  | 93 => .fn 1 spNo []
  | 94 => .fn 1 spNo []
  | 95 => .fn 1 spNo []
  | 96 => .fn 1 spNo []
  | 97 => .fn 1 spNo []
  | 98 => .fn 1 spNo []
  | 99 => .fn 1 spNo []
  | 100 => .fn 1 spNo []
  | 101 => .fn 1 spNo []
  | 102 => .fn 1 spNo []
  | 103 => .fn 1 spNo []
  | 104 => .fn 1 spNo []
  | 105 => .fn 1 spNo []
  | 106 => .fn 1 spNo []
  | 107 => .fn 1 spNo []
  | 108 => .fn 1 spNo []
  | 109 => .fn 1 spNo []
  | 110 => .fn 1 spNo []
  | 111 => .fn 1 spNo []
  | 112 => .fn 1 spNo []
  | 113 => .fn 1 spNo []
  | 114 => .fn 1 spNo []
  | 115 => .fn 1 spNo []
  | 116 => .fn 1 spNo []
  | 117 => .fn 1 spNo []
  | 118 => .fn 1 spNo []
  | 119 => .fn 1 spNo []
  | 120 => .fn 1 spNo []
  | 121 => .fn 1 spNo []
  | 122 => .fn 1 spNo []
  | 123 => .fn 1 spNo []
  | 124 => .fn 1 spNo []
  | 125 => .fn 1 spNo []
  | 126 => .fn 1 spNo []
  | 127 => .fn 1 spNo []
  | 128 => .fn 1 spNo []
  | 129 => .fn 1 spNo []
  | 130 => .fn 1 spNo []
  | 131 => .fn 1 spNo []
  | 132 => .fn 1 spNo []
  | 133 => .fn 1 spNo []
  | 134 => .fn 1 spNo []
  | 135 => .fn 1 spNo []
  | 136 => .fn 1 spNo []
  | 137 => .fn 1 spNo []
  | 138 => .fn 1 spNo []
  | 139 => .fn 1 spNo []
  | 140 => .fn 1 spNo []
  | 141 => .fn 1 spNo []
  | 142 => .fn 1 spNo []
  | 143 => .fn 1 spNo []
  | 144 => .fn 1 spNo []
  | 145 => .fn 1 spNo []
  | 146 => .fn 1 spNo []
  | 147 => .err (He.ga K "BadHalf") [(Str.ofString "what")] [0]
  | 148 => .cla (He.ga K "HalfPlane") none
  | 149 => .fn 3 spNo []
  | 150 => .fn 2 spNo []
  | 151 => .fn 1 spNo []
  | 152 => .fn 1 spNo []
  | 153 => .fn 1 spNo []
  | 154 => .fn 2 spNo []
  | 155 => .fn 2 spNo []
  | 156 => .fn 2 spNo []
  | 157 => .fn 1 spNo []
  | 158 => .fn 2 spNo []
  | 159 => .fn 1 spNo []
  | 160 => .fn 1 spNo []
  | 161 => .fn 2 spNo []
  | 162 => .fn 2 spNo []
  | 163 => .fn 4 spNo []
  | 164 => .fn 2 spNo []
  | 165 => .fn 4 spNo []
  | _ => .val .non
def kwc0 : Nat → Nat → List Str → Option (List (Sum Nat D)) := fun g np ks => if g = 148 ∧ np = 3 ∧ ks = [(Str.ofString "strict")] then some [.inl 0, .inl 1, .inl 2, .inl 3] else none
theorem fg_law_hand {K : PySem.W.Frag} {h : Heap} {mg : Str → Option Value} (X : K.In h) (G : h.Ns mainGlobals mg) (c : DL.SaysQ fal fnl psl K) : ∃ fd, FunD K "_law_hand" "_law_hand" (defArgs (top 17)) (defBody (top 17)) (defScope (top 17)) (d_law_hand.dvs K) [] (He.ga K "_law_hand") fd ∧ FnG K mg "_law_hand" 1 0 [] (He.ga K "_law_hand") fd [(Str.ofString "_law_script")] := by
  obtain ⟨fd, F⟩ := c.def_ 0 (d := d_law_hand) rfl
  exact ⟨fd, F, fnG0 F (He.glo_ok X G (c.fact 0 (f := .glo "_law_hand") rfl)) rfl fun _ _ _ _ _ _ us hl => match us, hl with | [_], _ => rfl⟩
theorem fg_law_mix {K : PySem.W.Frag} {h : Heap} {mg : Str → Option Value} (X : K.In h) (G : h.Ns mainGlobals mg) (c : DL.SaysQ fal fnl psl K) : ∃ fd, FunD K "_law_mix" "_law_mix" (defArgs (top 16)) (defBody (top 16)) (defScope (top 16)) (d_law_mix.dvs K) [] (He.ga K "_law_mix") fd ∧ FnG K mg "_law_mix" 2 0 [] (He.ga K "_law_mix") fd [(Str.ofString "_law_number_here"), (Str.ofString "_law_turn")] := by
  obtain ⟨fd, F⟩ := c.def_ 1 (d := d_law_mix) rfl
  exact ⟨fd, F, fnG0 F (He.glo_ok X G (c.fact 1 (f := .glo "_law_mix") rfl)) rfl fun _ _ _ _ _ _ us hl => match us, hl with | [_, _], _ => rfl⟩
theorem fg_law_draw {K : PySem.W.Frag} {h : Heap} {mg : Str → Option Value} (X : K.In h) (G : h.Ns mainGlobals mg) (c : DL.SaysQ fal fnl psl K) : ∃ fd, FunD K "_law_draw" "_law_draw" (defArgs (top 18)) (defBody (top 18)) (defScope (top 18)) (d_law_draw.dvs K) [] (He.ga K "_law_draw") fd ∧ FnG K mg "_law_draw" 2 0 [] (He.ga K "_law_draw") fd [(Str.ofString "_law_hand_here"), (Str.ofString "_law_many")] := by
  obtain ⟨fd, F⟩ := c.def_ 2 (d := d_law_draw) rfl
  exact ⟨fd, F, fnG0 F (He.glo_ok X G (c.fact 2 (f := .glo "_law_draw") rfl)) rfl fun _ _ _ _ _ _ us hl => match us, hl with | [_, _], _ => rfl⟩
theorem fg_law_pick {K : PySem.W.Frag} {h : Heap} {mg : Str → Option Value} (X : K.In h) (G : h.Ns mainGlobals mg) (c : DL.SaysQ fal fnl psl K) : ∃ fd, FunD K "_law_pick" "_law_pick" (defArgs (top 19)) (defBody (top 19)) (defScope (top 19)) (d_law_pick.dvs K) [] (He.ga K "_law_pick") fd ∧ FnG K mg "_law_pick" 2 0 [] (He.ga K "_law_pick") fd [(Str.ofString "_law_hand_here"), (Str.ofString "_law_things")] := by
  obtain ⟨fd, F⟩ := c.def_ 3 (d := d_law_pick) rfl
  exact ⟨fd, F, fnG0 F (He.glo_ok X G (c.fact 3 (f := .glo "_law_pick") rfl)) rfl fun _ _ _ _ _ _ us hl => match us, hl with | [_, _], _ => rfl⟩
theorem fg_law_number {K : PySem.W.Frag} {h : Heap} {mg : Str → Option Value} (X : K.In h) (G : h.Ns mainGlobals mg) (c : DL.SaysQ fal fnl psl K) : ∃ fd, FunD K "_law_number" "_law_number" (defArgs (top 27)) (defBody (top 27)) (defScope (top 27)) (d_law_number.dvs K) [] (He.ga K "_law_number") fd ∧ FnG K mg "_law_number" 1 0 [] (He.ga K "_law_number") fd [(Str.ofString "_law_hand_here")] := by
  obtain ⟨fd, F⟩ := c.def_ 4 (d := d_law_number) rfl
  exact ⟨fd, F, fnG0 F (He.glo_ok X G (c.fact 4 (f := .glo "_law_number") rfl)) rfl fun _ _ _ _ _ _ us hl => match us, hl with | [_], _ => rfl⟩
theorem fg_law_gcd {K : PySem.W.Frag} {h : Heap} {mg : Str → Option Value} (X : K.In h) (G : h.Ns mainGlobals mg) (c : DL.SaysQ fal fnl psl K) : ∃ fd, FunD K "_law_gcd" "_law_gcd" (defArgs (top 20)) (defBody (top 20)) (defScope (top 20)) (d_law_gcd.dvs K) [] (He.ga K "_law_gcd") fd ∧ FnG K mg "_law_gcd" 2 0 [] (He.ga K "_law_gcd") fd [(Str.ofString "_law_one"), (Str.ofString "_law_other")] := by
  obtain ⟨fd, F⟩ := c.def_ 5 (d := d_law_gcd) rfl
  exact ⟨fd, F, fnG0 F (He.glo_ok X G (c.fact 5 (f := .glo "_law_gcd") rfl)) rfl fun _ _ _ _ _ _ us hl => match us, hl with | [_, _], _ => rfl⟩
theorem fg_law_ratio {K : PySem.W.Frag} {h : Heap} {mg : Str → Option Value} (X : K.In h) (G : h.Ns mainGlobals mg) (c : DL.SaysQ fal fnl psl K) : ∃ fd, FunD K "_law_ratio" "_law_ratio" (defArgs (top 21)) (defBody (top 21)) (defScope (top 21)) (d_law_ratio.dvs K) [] (He.ga K "_law_ratio") fd ∧ FnG K mg "_law_ratio" 2 0 [] (He.ga K "_law_ratio") fd [(Str.ofString "_law_top"), (Str.ofString "_law_bottom")] := by
  obtain ⟨fd, F⟩ := c.def_ 6 (d := d_law_ratio) rfl
  exact ⟨fd, F, fnG0 F (He.glo_ok X G (c.fact 6 (f := .glo "_law_ratio") rfl)) rfl fun _ _ _ _ _ _ us hl => match us, hl with | [_, _], _ => rfl⟩
theorem fg_law_any_ratio {K : PySem.W.Frag} {h : Heap} {mg : Str → Option Value} (X : K.In h) (G : h.Ns mainGlobals mg) (c : DL.SaysQ fal fnl psl K) : ∃ fd, FunD K "_law_any_ratio" "_law_any_ratio" (defArgs (top 28)) (defBody (top 28)) (defScope (top 28)) (d_law_any_ratio.dvs K) [] (He.ga K "_law_any_ratio") fd ∧ FnG K mg "_law_any_ratio" 1 0 [] (He.ga K "_law_any_ratio") fd [(Str.ofString "_law_hand_here")] := by
  obtain ⟨fd, F⟩ := c.def_ 7 (d := d_law_any_ratio) rfl
  exact ⟨fd, F, fnG0 F (He.glo_ok X G (c.fact 7 (f := .glo "_law_any_ratio") rfl)) rfl fun _ _ _ _ _ _ us hl => match us, hl with | [_], _ => rfl⟩
theorem fg_law_drawn {K : PySem.W.Frag} {h : Heap} {mg : Str → Option Value} (X : K.In h) (G : h.Ns mainGlobals mg) (c : DL.SaysQ fal fnl psl K) : ∃ fd, FunD K "_law_drawn" "_law_drawn" (defArgs (top 32)) (defBody (top 32)) (defScope (top 32)) (d_law_drawn.dvs K) [] (He.ga K "_law_drawn") fd ∧ FnG K mg "_law_drawn" 1 0 [] (He.ga K "_law_drawn") fd [(Str.ofString "_law_hand_here")] := by
  obtain ⟨fd, F⟩ := c.def_ 8 (d := d_law_drawn) rfl
  exact ⟨fd, F, fnG0 F (He.glo_ok X G (c.fact 8 (f := .glo "_law_drawn") rfl)) rfl fun _ _ _ _ _ _ us hl => match us, hl with | [_], _ => rfl⟩
theorem fg_row_of {K : PySem.W.Frag} {h : Heap} {mg : Str → Option Value} (X : K.In h) (G : h.Ns mainGlobals mg) (c : DL.SaysQ fal fnl psl K) : ∃ fd, FunD K "_row_of" "_row_of" (defArgs (top 14)) (defBody (top 14)) (defScope (top 14)) (d_row_of.dvs K) [] (He.ga K "_row_of") fd ∧ FnG K mg "_row_of" 3 0 [] (He.ga K "_row_of") fd [(Str.ofString "p"), (Str.ofString "q"), (Str.ofString "r")] := by
  obtain ⟨fd, F⟩ := c.def_ 9 (d := d_row_of) rfl
  exact ⟨fd, F, fnG0 F (He.glo_ok X G (c.fact 9 (f := .glo "_row_of") rfl)) rfl fun _ _ _ _ _ _ us hl => match us, hl with | [_, _, _], _ => rfl⟩
theorem fg_is_whole {K : PySem.W.Frag} {h : Heap} {mg : Str → Option Value} (X : K.In h) (G : h.Ns mainGlobals mg) (c : DL.SaysQ fal fnl psl K) : ∃ fd, FunD K "is_whole" "is_whole" (defArgs (top 5)) (defBody (top 5)) (defScope (top 5)) (d_is_whole.dvs K) [] (He.ga K "is_whole") fd ∧ FnG K mg "is_whole" 3 2 [.non, .non] (He.ga K "is_whole") fd [(Str.ofString "thing"), (Str.ofString "low"), (Str.ofString "high")] := by
  obtain ⟨fd, F⟩ := c.def_ 10 (d := d_is_whole) rfl
  refine ⟨fd, F, ⟨He.glo_ok X G (c.fact 10 (f := .glo "is_whole") rfl), F.kp, rfl, rfl, fun j hj => ?_⟩⟩
  match j, hj with
  | 0, _ => obtain ⟨ds, v, b⟩ := F.binds1 (ps := [(Str.ofString "thing"), (Str.ofString "low"), (Str.ofString "high")]) 3 2 (by intro z; cases z) rfl (fun _ _ _ _ _ _ _ us its h1 h2 => match us, its, h1, h2 with | [_, _, _], [_, _], _, _ => ⟨_, rfl, by kernel_rfl⟩); exact ⟨_, ds, b, v, fun H => .nil⟩
  | 1, _ => obtain ⟨ds, v, b⟩ := F.binds1 (ps := [(Str.ofString "thing"), (Str.ofString "low"), (Str.ofString "high")]) 2 1 (by intro z; cases z) rfl (fun _ _ _ _ _ _ _ us its h1 h2 => match us, its, h1, h2 with | [_, _], [_, _], _, _ => ⟨_, rfl, by kernel_rfl⟩); exact ⟨_, ds, b, v, fun H => (.cons .non .nil)⟩
  | 2, _ => obtain ⟨ds, v, b⟩ := F.binds1 (ps := [(Str.ofString "thing"), (Str.ofString "low"), (Str.ofString "high")]) 1 0 (by intro z; cases z) rfl (fun _ _ _ _ _ _ _ us its h1 h2 => match us, its, h1, h2 with | [_], [_, _], _, _ => ⟨_, rfl, by kernel_rfl⟩); exact ⟨_, ds, b, v, fun H => (.cons .non (.cons .non .nil))⟩
  | j + 3, hj => omega
theorem fg_is_ratio {K : PySem.W.Frag} {h : Heap} {mg : Str → Option Value} (X : K.In h) (G : h.Ns mainGlobals mg) (c : DL.SaysQ fal fnl psl K) : ∃ fd, FunD K "is_ratio" "is_ratio" (defArgs (top 6)) (defBody (top 6)) (defScope (top 6)) (d_is_ratio.dvs K) [] (He.ga K "is_ratio") fd ∧ FnG K mg "is_ratio" 1 0 [] (He.ga K "is_ratio") fd [(Str.ofString "thing")] := by
  obtain ⟨fd, F⟩ := c.def_ 11 (d := d_is_ratio) rfl
  exact ⟨fd, F, fnG0 F (He.glo_ok X G (c.fact 11 (f := .glo "is_ratio") rfl)) rfl fun _ _ _ _ _ _ us hl => match us, hl with | [_], _ => rfl⟩
theorem fg_HalfPlane_init {K : PySem.W.Frag} (c : DL.SaysQ fal fnl psl K) : ∃ fd, FunD K "__init__" "HalfPlane.__init__" (defArgs (mth 13 0)) (defBody (mth 13 0)) (defScope (mth 13 0)) (d_HalfPlane_init.dvs K) [] (He.fAd K ("HalfPlane", some "__init__")) fd ∧ DflOk K fd [(Str.ofString "self"), (Str.ofString "p"), (Str.ofString "q"), (Str.ofString "r"), (Str.ofString "strict")] [(.bl false)] := by
  obtain ⟨fd, F⟩ := c.def_ 12 (d := d_HalfPlane_init) rfl
  refine ⟨fd, F, fun j hj => ?_⟩
  match j, hj with
  | 0, _ => obtain ⟨ds, v, b⟩ := F.binds1 (ps := [(Str.ofString "self"), (Str.ofString "p"), (Str.ofString "q"), (Str.ofString "r"), (Str.ofString "strict")]) 5 1 (by intro z; cases z) rfl (fun _ _ _ _ _ _ _ us its h1 h2 => match us, its, h1, h2 with | [_, _, _, _, _], [_], _, _ => ⟨_, rfl, by kernel_rfl⟩); exact ⟨_, ds, b, v, fun H => .nil⟩
  | 1, _ => obtain ⟨ds, v, b⟩ := F.binds1 (ps := [(Str.ofString "self"), (Str.ofString "p"), (Str.ofString "q"), (Str.ofString "r"), (Str.ofString "strict")]) 4 0 (by intro z; cases z) rfl (fun _ _ _ _ _ _ _ us its h1 h2 => match us, its, h1, h2 with | [_, _, _, _], [_], _, _ => ⟨_, rfl, by kernel_rfl⟩); exact ⟨_, ds, b, v, fun H => (.cons (.bl _) .nil)⟩
  | j + 2, hj => exact absurd hj (by simp)
theorem fg_law_told {K : PySem.W.Frag} {h : Heap} {mg : Str → Option Value} (X : K.In h) (G : h.Ns mainGlobals mg) (c : DL.SaysQ fal fnl psl K) : ∃ fd, FunD K "_law_told" "_law_told" (defArgs (top 34)) (defBody (top 34)) (defScope (top 34)) (d_law_told.dvs K) [] (He.ga K "_law_told") fd ∧ FnG K mg "_law_told" 1 0 [] (He.ga K "_law_told") fd [(Str.ofString "_law_parts")] := by
  obtain ⟨fd, F⟩ := c.def_ 13 (d := d_law_told) rfl
  exact ⟨fd, F, fnG0 F (He.glo_ok X G (c.fact 12 (f := .glo "_law_told") rfl)) rfl fun _ _ _ _ _ _ us hl => match us, hl with | [_], _ => rfl⟩
theorem fg_law_odd {K : PySem.W.Frag} {h : Heap} {mg : Str → Option Value} (X : K.In h) (G : h.Ns mainGlobals mg) (c : DL.SaysQ fal fnl psl K) : ∃ fd, FunD K "_law_odd" "_law_odd" (defArgs (top 33)) (defBody (top 33)) (defScope (top 33)) (d_law_odd.dvs K) [] (He.ga K "_law_odd") fd ∧ FnG K mg "_law_odd" 2 0 [] (He.ga K "_law_odd") fd [(Str.ofString "_law_hand_here"), (Str.ofString "_law_place")] := by
  obtain ⟨fd, F⟩ := c.def_ 14 (d := d_law_odd) rfl
  exact ⟨fd, F, fnG0 F (He.glo_ok X G (c.fact 13 (f := .glo "_law_odd") rfl)) rfl fun _ _ _ _ _ _ us hl => match us, hl with | [_, _], _ => rfl⟩
theorem fg_law_refused {K : PySem.W.Frag} {h : Heap} {mg : Str → Option Value} (X : K.In h) (G : h.Ns mainGlobals mg) (c : DL.SaysQ fal fnl psl K) : ∃ fd, FunD K "_law_refused" "_law_refused" (defArgs (top 35)) (defBody (top 35)) (defScope (top 35)) (d_law_refused.dvs K) [] (He.ga K "_law_refused") fd ∧ FnG K mg "_law_refused" 2 0 [] (He.ga K "_law_refused") fd [(Str.ofString "_law_hand_here"), (Str.ofString "_law_half")] := by
  obtain ⟨fd, F⟩ := c.def_ 15 (d := d_law_refused) rfl
  exact ⟨fd, F, fnG0 F (He.glo_ok X G (c.fact 14 (f := .glo "_law_refused") rfl)) rfl fun _ _ _ _ _ _ us hl => match us, hl with | [_, _], _ => rfl⟩
theorem fg_negative {K : PySem.W.Frag} {h : Heap} {mg : Str → Option Value} (X : K.In h) (G : h.Ns mainGlobals mg) (c : DL.SaysQ fal fnl psl K) : ∃ fd, FunD K "negative" "negative" (defArgs (top 11)) (defBody (top 11)) (defScope (top 11)) (d_negative.dvs K) [] (He.ga K "negative") fd ∧ FnG K mg "negative" 1 0 [] (He.ga K "negative") fd [(Str.ofString "one")] := by
  obtain ⟨fd, F⟩ := c.def_ 16 (d := d_negative) rfl
  exact ⟨fd, F, fnG0 F (He.glo_ok X G (c.fact 15 (f := .glo "negative") rfl)) rfl fun _ _ _ _ _ _ us hl => match us, hl with | [_], _ => rfl⟩
theorem fg_HalfPlane_opposite {K : PySem.W.Frag} (c : DL.SaysQ fal fnl psl K) : ∃ fd, FunD K "opposite" "HalfPlane.opposite" (defArgs (mth 13 5)) (defBody (mth 13 5)) (defScope (mth 13 5)) (d_HalfPlane_opposite.dvs K) [] (He.fAd K ("HalfPlane", some "opposite")) fd ∧ DflOk K fd [(Str.ofString "self")] [] := by
  obtain ⟨fd, F⟩ := c.def_ 17 (d := d_HalfPlane_opposite) rfl
  exact ⟨fd, F, fun j hj => ⟨[], [], F.bindsN (fun _ _ _ _ _ _ us hl => match us, hl with | [_], _ => rfl), .nil, fun H => by rw [List.drop_nil]; exact .nil⟩⟩
theorem fg_HalfPlane_eq {K : PySem.W.Frag} (c : DL.SaysQ fal fnl psl K) : ∃ fd, FunD K "__eq__" "HalfPlane.__eq__" (defArgs (mth 13 1)) (defBody (mth 13 1)) (defScope (mth 13 1)) (d_HalfPlane_eq.dvs K) [] (He.fAd K ("HalfPlane", some "__eq__")) fd ∧ DflOk K fd [(Str.ofString "self"), (Str.ofString "other")] [] := by
  obtain ⟨fd, F⟩ := c.def_ 18 (d := d_HalfPlane_eq) rfl
  exact ⟨fd, F, fun j hj => ⟨[], [], F.bindsN (fun _ _ _ _ _ _ us hl => match us, hl with | [_, _], _ => rfl), .nil, fun H => by rw [List.drop_nil]; exact .nil⟩⟩
theorem fg_lowest {K : PySem.W.Frag} {h : Heap} {mg : Str → Option Value} (X : K.In h) (G : h.Ns mainGlobals mg) (c : DL.SaysQ fal fnl psl K) : ∃ fd, FunD K "lowest" "lowest" (defArgs (top 7)) (defBody (top 7)) (defScope (top 7)) (d_lowest.dvs K) [] (He.ga K "lowest") fd ∧ FnG K mg "lowest" 2 0 [] (He.ga K "lowest") fd [(Str.ofString "top"), (Str.ofString "bottom")] := by
  obtain ⟨fd, F⟩ := c.def_ 19 (d := d_lowest) rfl
  exact ⟨fd, F, fnG0 F (He.glo_ok X G (c.fact 16 (f := .glo "lowest") rfl)) rfl fun _ _ _ _ _ _ us hl => match us, hl with | [_, _], _ => rfl⟩
theorem fg_minus {K : PySem.W.Frag} {h : Heap} {mg : Str → Option Value} (X : K.In h) (G : h.Ns mainGlobals mg) (c : DL.SaysQ fal fnl psl K) : ∃ fd, FunD K "minus" "minus" (defArgs (top 9)) (defBody (top 9)) (defScope (top 9)) (d_minus.dvs K) [] (He.ga K "minus") fd ∧ FnG K mg "minus" 2 0 [] (He.ga K "minus") fd [(Str.ofString "one"), (Str.ofString "other")] := by
  obtain ⟨fd, F⟩ := c.def_ 20 (d := d_minus) rfl
  exact ⟨fd, F, fnG0 F (He.glo_ok X G (c.fact 17 (f := .glo "minus") rfl)) rfl fun _ _ _ _ _ _ us hl => match us, hl with | [_, _], _ => rfl⟩
theorem fg_plus {K : PySem.W.Frag} {h : Heap} {mg : Str → Option Value} (X : K.In h) (G : h.Ns mainGlobals mg) (c : DL.SaysQ fal fnl psl K) : ∃ fd, FunD K "plus" "plus" (defArgs (top 8)) (defBody (top 8)) (defScope (top 8)) (d_plus.dvs K) [] (He.ga K "plus") fd ∧ FnG K mg "plus" 2 0 [] (He.ga K "plus") fd [(Str.ofString "one"), (Str.ofString "other")] := by
  obtain ⟨fd, F⟩ := c.def_ 21 (d := d_plus) rfl
  exact ⟨fd, F, fnG0 F (He.glo_ok X G (c.fact 18 (f := .glo "plus") rfl)) rfl fun _ _ _ _ _ _ us hl => match us, hl with | [_, _], _ => rfl⟩
theorem fg_times {K : PySem.W.Frag} {h : Heap} {mg : Str → Option Value} (X : K.In h) (G : h.Ns mainGlobals mg) (c : DL.SaysQ fal fnl psl K) : ∃ fd, FunD K "times" "times" (defArgs (top 10)) (defBody (top 10)) (defScope (top 10)) (d_times.dvs K) [] (He.ga K "times") fd ∧ FnG K mg "times" 2 0 [] (He.ga K "times") fd [(Str.ofString "one"), (Str.ofString "other")] := by
  obtain ⟨fd, F⟩ := c.def_ 22 (d := d_times) rfl
  exact ⟨fd, F, fnG0 F (He.glo_ok X G (c.fact 19 (f := .glo "times") rfl)) rfl fun _ _ _ _ _ _ us hl => match us, hl with | [_, _], _ => rfl⟩
theorem fg_HalfPlane_excess_at {K : PySem.W.Frag} (c : DL.SaysQ fal fnl psl K) : ∃ fd, FunD K "excess_at" "HalfPlane.excess_at" (defArgs (mth 13 4)) (defBody (mth 13 4)) (defScope (mth 13 4)) (d_HalfPlane_excess_at.dvs K) [] (He.fAd K ("HalfPlane", some "excess_at")) fd ∧ DflOk K fd [(Str.ofString "self"), (Str.ofString "cargo")] [] := by
  obtain ⟨fd, F⟩ := c.def_ 23 (d := d_HalfPlane_excess_at) rfl
  exact ⟨fd, F, fun j hj => ⟨[], [], F.bindsN (fun _ _ _ _ _ _ us hl => match us, hl with | [_, _], _ => rfl), .nil, fun H => by rw [List.drop_nil]; exact .nil⟩⟩
theorem fg_HalfPlane_closed {K : PySem.W.Frag} (c : DL.SaysQ fal fnl psl K) : ∃ fd, FunD K "closed" "HalfPlane.closed" (defArgs (mth 13 6)) (defBody (mth 13 6)) (defScope (mth 13 6)) (d_HalfPlane_closed.dvs K) [] (He.fAd K ("HalfPlane", some "closed")) fd ∧ DflOk K fd [(Str.ofString "self")] [] := by
  obtain ⟨fd, F⟩ := c.def_ 24 (d := d_HalfPlane_closed) rfl
  exact ⟨fd, F, fun j hj => ⟨[], [], F.bindsN (fun _ _ _ _ _ _ us hl => match us, hl with | [_], _ => rfl), .nil, fun H => by rw [List.drop_nil]; exact .nil⟩⟩
theorem fg_law_is_truth {K : PySem.W.Frag} {h : Heap} {mg : Str → Option Value} (X : K.In h) (G : h.Ns mainGlobals mg) (c : DL.SaysQ fal fnl psl K) : ∃ fd, FunD K "_law_is_truth" "_law_is_truth" (defArgs (top 31)) (defBody (top 31)) (defScope (top 31)) (d_law_is_truth.dvs K) [] (He.ga K "_law_is_truth") fd ∧ FnG K mg "_law_is_truth" 2 0 [] (He.ga K "_law_is_truth") fd [(Str.ofString "_law_told_here"), (Str.ofString "_law_due")] := by
  obtain ⟨fd, F⟩ := c.def_ 25 (d := d_law_is_truth) rfl
  exact ⟨fd, F, fnG0 F (He.glo_ok X G (c.fact 20 (f := .glo "_law_is_truth") rfl)) rfl fun _ _ _ _ _ _ us hl => match us, hl with | [_, _], _ => rfl⟩
theorem fg_law_row {K : PySem.W.Frag} {h : Heap} {mg : Str → Option Value} (X : K.In h) (G : h.Ns mainGlobals mg) (c : DL.SaysQ fal fnl psl K) : ∃ fd, FunD K "_law_row" "_law_row" (defArgs (top 36)) (defBody (top 36)) (defScope (top 36)) (d_law_row.dvs K) [] (He.ga K "_law_row") fd ∧ FnG K mg "_law_row" 1 0 [] (He.ga K "_law_row") fd [(Str.ofString "_law_half")] := by
  obtain ⟨fd, F⟩ := c.def_ 26 (d := d_law_row) rfl
  exact ⟨fd, F, fnG0 F (He.glo_ok X G (c.fact 21 (f := .glo "_law_row") rfl)) rfl fun _ _ _ _ _ _ us hl => match us, hl with | [_], _ => rfl⟩
theorem fg_HalfPlane_reach {K : PySem.W.Frag} (c : DL.SaysQ fal fnl psl K) : ∃ fd, FunD K "reach" "HalfPlane.reach" (defArgs (mth 13 2)) (defBody (mth 13 2)) (defScope (mth 13 2)) (d_HalfPlane_reach.dvs K) [] (DL.pgA K "HalfPlane" "reach") fd ∧ Binds K fd [(Str.ofString "self")] [] := by
  obtain ⟨fd, F⟩ := c.prp 0 (p := ⟨"HalfPlane", "reach", d_HalfPlane_reach⟩) rfl
  exact ⟨fd, F, F.bindsN (fun _ _ _ _ _ _ us hl => match us, hl with | [_], _ => rfl)⟩
theorem fg_law_reach {K : PySem.W.Frag} {h : Heap} {mg : Str → Option Value} (X : K.In h) (G : h.Ns mainGlobals mg) (c : DL.SaysQ fal fnl psl K) : ∃ fd, FunD K "_law_reach" "_law_reach" (defArgs (top 37)) (defBody (top 37)) (defScope (top 37)) (d_law_reach.dvs K) [] (He.ga K "_law_reach") fd ∧ FnG K mg "_law_reach" 1 0 [] (He.ga K "_law_reach") fd [(Str.ofString "_law_half")] := by
  obtain ⟨fd, F⟩ := c.def_ 27 (d := d_law_reach) rfl
  exact ⟨fd, F, fnG0 F (He.glo_ok X G (c.fact 22 (f := .glo "_law_reach") rfl)) rfl fun _ _ _ _ _ _ us hl => match us, hl with | [_], _ => rfl⟩
theorem fg_law_is_whole {K : PySem.W.Frag} {h : Heap} {mg : Str → Option Value} (X : K.In h) (G : h.Ns mainGlobals mg) (c : DL.SaysQ fal fnl psl K) : ∃ fd, FunD K "_law_is_whole" "_law_is_whole" (defArgs (top 25)) (defBody (top 25)) (defScope (top 25)) (d_law_is_whole.dvs K) [] (He.ga K "_law_is_whole") fd ∧ FnG K mg "_law_is_whole" 1 0 [] (He.ga K "_law_is_whole") fd [(Str.ofString "_law_thing")] := by
  obtain ⟨fd, F⟩ := c.def_ 28 (d := d_law_is_whole) rfl
  exact ⟨fd, F, fnG0 F (He.glo_ok X G (c.fact 23 (f := .glo "_law_is_whole") rfl)) rfl fun _ _ _ _ _ _ us hl => match us, hl with | [_], _ => rfl⟩
theorem fg_law_is_ratio {K : PySem.W.Frag} {h : Heap} {mg : Str → Option Value} (X : K.In h) (G : h.Ns mainGlobals mg) (c : DL.SaysQ fal fnl psl K) : ∃ fd, FunD K "_law_is_ratio" "_law_is_ratio" (defArgs (top 26)) (defBody (top 26)) (defScope (top 26)) (d_law_is_ratio.dvs K) [] (He.ga K "_law_is_ratio") fd ∧ FnG K mg "_law_is_ratio" 1 0 [] (He.ga K "_law_is_ratio") fd [(Str.ofString "_law_thing")] := by
  obtain ⟨fd, F⟩ := c.def_ 29 (d := d_law_is_ratio) rfl
  exact ⟨fd, F, fnG0 F (He.glo_ok X G (c.fact 24 (f := .glo "_law_is_ratio") rfl)) rfl fun _ _ _ _ _ _ us hl => match us, hl with | [_], _ => rfl⟩
theorem fg_law_fits {K : PySem.W.Frag} {h : Heap} {mg : Str → Option Value} (X : K.In h) (G : h.Ns mainGlobals mg) (c : DL.SaysQ fal fnl psl K) : ∃ fd, FunD K "_law_fits" "_law_fits" (defArgs (top 39)) (defBody (top 39)) (defScope (top 39)) (d_law_fits.dvs K) [] (He.ga K "_law_fits") fd ∧ FnG K mg "_law_fits" 2 0 [] (He.ga K "_law_fits") fd [(Str.ofString "_law_made"), (Str.ofString "_law_half")] := by
  obtain ⟨fd, F⟩ := c.def_ 30 (d := d_law_fits) rfl
  exact ⟨fd, F, fnG0 F (He.glo_ok X G (c.fact 25 (f := .glo "_law_fits") rfl)) rfl fun _ _ _ _ _ _ us hl => match us, hl with | [_, _], _ => rfl⟩
theorem fg_law_less {K : PySem.W.Frag} {h : Heap} {mg : Str → Option Value} (X : K.In h) (G : h.Ns mainGlobals mg) (c : DL.SaysQ fal fnl psl K) : ∃ fd, FunD K "_law_less" "_law_less" (defArgs (top 24)) (defBody (top 24)) (defScope (top 24)) (d_law_less.dvs K) [] (He.ga K "_law_less") fd ∧ FnG K mg "_law_less" 2 0 [] (He.ga K "_law_less") fd [(Str.ofString "_law_one"), (Str.ofString "_law_other")] := by
  obtain ⟨fd, F⟩ := c.def_ 31 (d := d_law_less) rfl
  exact ⟨fd, F, fnG0 F (He.glo_ok X G (c.fact 26 (f := .glo "_law_less") rfl)) rfl fun _ _ _ _ _ _ us hl => match us, hl with | [_, _], _ => rfl⟩
theorem fg_law_plus {K : PySem.W.Frag} {h : Heap} {mg : Str → Option Value} (X : K.In h) (G : h.Ns mainGlobals mg) (c : DL.SaysQ fal fnl psl K) : ∃ fd, FunD K "_law_plus" "_law_plus" (defArgs (top 22)) (defBody (top 22)) (defScope (top 22)) (d_law_plus.dvs K) [] (He.ga K "_law_plus") fd ∧ FnG K mg "_law_plus" 2 0 [] (He.ga K "_law_plus") fd [(Str.ofString "_law_one"), (Str.ofString "_law_other")] := by
  obtain ⟨fd, F⟩ := c.def_ 32 (d := d_law_plus) rfl
  exact ⟨fd, F, fnG0 F (He.glo_ok X G (c.fact 27 (f := .glo "_law_plus") rfl)) rfl fun _ _ _ _ _ _ us hl => match us, hl with | [_, _], _ => rfl⟩
theorem fg_law_times {K : PySem.W.Frag} {h : Heap} {mg : Str → Option Value} (X : K.In h) (G : h.Ns mainGlobals mg) (c : DL.SaysQ fal fnl psl K) : ∃ fd, FunD K "_law_times" "_law_times" (defArgs (top 23)) (defBody (top 23)) (defScope (top 23)) (d_law_times.dvs K) [] (He.ga K "_law_times") fd ∧ FnG K mg "_law_times" 2 0 [] (He.ga K "_law_times") fd [(Str.ofString "_law_one"), (Str.ofString "_law_other")] := by
  obtain ⟨fd, F⟩ := c.def_ 33 (d := d_law_times) rfl
  exact ⟨fd, F, fnG0 F (He.glo_ok X G (c.fact 28 (f := .glo "_law_times") rfl)) rfl fun _ _ _ _ _ _ us hl => match us, hl with | [_, _], _ => rfl⟩
theorem fg_law_excess {K : PySem.W.Frag} {h : Heap} {mg : Str → Option Value} (X : K.In h) (G : h.Ns mainGlobals mg) (c : DL.SaysQ fal fnl psl K) : ∃ fd, FunD K "_law_excess" "_law_excess" (defArgs (top 29)) (defBody (top 29)) (defScope (top 29)) (d_law_excess.dvs K) [] (He.ga K "_law_excess") fd ∧ FnG K mg "_law_excess" 2 0 [] (He.ga K "_law_excess") fd [(Str.ofString "_law_half"), (Str.ofString "_law_point")] := by
  obtain ⟨fd, F⟩ := c.def_ 34 (d := d_law_excess) rfl
  exact ⟨fd, F, fnG0 F (He.glo_ok X G (c.fact 29 (f := .glo "_law_excess") rfl)) rfl fun _ _ _ _ _ _ us hl => match us, hl with | [_, _], _ => rfl⟩
theorem fg_HalfPlane_holds_cargo {K : PySem.W.Frag} (c : DL.SaysQ fal fnl psl K) : ∃ fd, FunD K "holds_cargo" "HalfPlane.holds_cargo" (defArgs (mth 13 3)) (defBody (mth 13 3)) (defScope (mth 13 3)) (d_HalfPlane_holds_cargo.dvs K) [] (He.fAd K ("HalfPlane", some "holds_cargo")) fd ∧ DflOk K fd [(Str.ofString "self"), (Str.ofString "cargo")] [] := by
  obtain ⟨fd, F⟩ := c.def_ 35 (d := d_HalfPlane_holds_cargo) rfl
  exact ⟨fd, F, fun j hj => ⟨[], [], F.bindsN (fun _ _ _ _ _ _ us hl => match us, hl with | [_, _], _ => rfl), .nil, fun H => by rw [List.drop_nil]; exact .nil⟩⟩
theorem fg_law_is_in {K : PySem.W.Frag} {h : Heap} {mg : Str → Option Value} (X : K.In h) (G : h.Ns mainGlobals mg) (c : DL.SaysQ fal fnl psl K) : ∃ fd, FunD K "_law_is_in" "_law_is_in" (defArgs (top 30)) (defBody (top 30)) (defScope (top 30)) (d_law_is_in.dvs K) [] (He.ga K "_law_is_in") fd ∧ FnG K mg "_law_is_in" 2 0 [] (He.ga K "_law_is_in") fd [(Str.ofString "_law_half"), (Str.ofString "_law_point")] := by
  obtain ⟨fd, F⟩ := c.def_ 36 (d := d_law_is_in) rfl
  exact ⟨fd, F, fnG0 F (He.glo_ok X G (c.fact 30 (f := .glo "_law_is_in") rfl)) rfl fun _ _ _ _ _ _ us hl => match us, hl with | [_, _], _ => rfl⟩
theorem fg_law_is_told {K : PySem.W.Frag} {h : Heap} {mg : Str → Option Value} (X : K.In h) (G : h.Ns mainGlobals mg) (c : DL.SaysQ fal fnl psl K) : ∃ fd, FunD K "_law_is_told" "_law_is_told" (defArgs (top 40)) (defBody (top 40)) (defScope (top 40)) (d_law_is_told.dvs K) [] (He.ga K "_law_is_told") fd ∧ FnG K mg "_law_is_told" 4 0 [] (He.ga K "_law_is_told") fd [(Str.ofString "_law_hand_here"), (Str.ofString "_law_made"), (Str.ofString "_law_half"), (Str.ofString "_law_points_here")] := by
  obtain ⟨fd, F⟩ := c.def_ 37 (d := d_law_is_told) rfl
  exact ⟨fd, F, fnG0 F (He.glo_ok X G (c.fact 31 (f := .glo "_law_is_told") rfl)) rfl fun _ _ _ _ _ _ us hl => match us, hl with | [_, _, _, _], _ => rfl⟩
theorem fg_law_points {K : PySem.W.Frag} {h : Heap} {mg : Str → Option Value} (X : K.In h) (G : h.Ns mainGlobals mg) (c : DL.SaysQ fal fnl psl K) : ∃ fd, FunD K "_law_points" "_law_points" (defArgs (top 38)) (defBody (top 38)) (defScope (top 38)) (d_law_points.dvs K) [] (He.ga K "_law_points") fd ∧ FnG K mg "_law_points" 2 0 [] (He.ga K "_law_points") fd [(Str.ofString "_law_hand_here"), (Str.ofString "_law_half")] := by
  obtain ⟨fd, F⟩ := c.def_ 38 (d := d_law_points) rfl
  exact ⟨fd, F, fnG0 F (He.glo_ok X G (c.fact 32 (f := .glo "_law_points") rfl)) rfl fun _ _ _ _ _ _ us hl => match us, hl with | [_, _], _ => rfl⟩
theorem fg_HalfPlane_is_same {K : PySem.W.Frag} (c : DL.SaysQ fal fnl psl K) : ∃ fd, FunD K "is_same" "HalfPlane.is_same" (defArgs (mth 13 7)) (defBody (mth 13 7)) (defScope (mth 13 7)) (d_HalfPlane_is_same.dvs K) [] (He.fAd K ("HalfPlane", some "is_same")) fd ∧ DflOk K fd [(Str.ofString "self"), (Str.ofString "other")] [] := by
  obtain ⟨fd, F⟩ := c.def_ 39 (d := d_HalfPlane_is_same) rfl
  exact ⟨fd, F, fun j hj => ⟨[], [], F.bindsN (fun _ _ _ _ _ _ us hl => match us, hl with | [_, _], _ => rfl), .nil, fun H => by rw [List.drop_nil]; exact .nil⟩⟩
theorem fg_law_same_points {K : PySem.W.Frag} {h : Heap} {mg : Str → Option Value} (X : K.In h) (G : h.Ns mainGlobals mg) (c : DL.SaysQ fal fnl psl K) : ∃ fd, FunD K "_law_same_points" "_law_same_points" (defArgs (top 41)) (defBody (top 41)) (defScope (top 41)) (d_law_same_points.dvs K) [] (He.ga K "_law_same_points") fd ∧ FnG K mg "_law_same_points" 2 0 [] (He.ga K "_law_same_points") fd [(Str.ofString "_law_one"), (Str.ofString "_law_other")] := by
  obtain ⟨fd, F⟩ := c.def_ 40 (d := d_law_same_points) rfl
  exact ⟨fd, F, fnG0 F (He.glo_ok X G (c.fact 33 (f := .glo "_law_same_points") rfl)) rfl fun _ _ _ _ _ _ us hl => match us, hl with | [_, _], _ => rfl⟩
theorem fg_law_compared {K : PySem.W.Frag} {h : Heap} {mg : Str → Option Value} (X : K.In h) (G : h.Ns mainGlobals mg) (c : DL.SaysQ fal fnl psl K) : ∃ fd, FunD K "_law_compared" "_law_compared" (defArgs (top 42)) (defBody (top 42)) (defScope (top 42)) (d_law_compared.dvs K) [] (He.ga K "_law_compared") fd ∧ FnG K mg "_law_compared" 4 0 [] (He.ga K "_law_compared") fd [(Str.ofString "_law_hand_here"), (Str.ofString "_law_made"), (Str.ofString "_law_half"), (Str.ofString "_law_other")] := by
  obtain ⟨fd, F⟩ := c.def_ 41 (d := d_law_compared) rfl
  exact ⟨fd, F, fnG0 F (He.glo_ok X G (c.fact 34 (f := .glo "_law_compared") rfl)) rfl fun _ _ _ _ _ _ us hl => match us, hl with | [_, _, _, _], _ => rfl⟩
theorem fg_law {K : PySem.W.Frag} {h : Heap} {mg : Str → Option Value} (X : K.In h) (G : h.Ns mainGlobals mg) (c : DL.SaysQ fal fnl psl K) : ∃ fd, FunD K "law" "law" (defArgs (top 43)) (defBody (top 43)) (defScope (top 43)) (d_law.dvs K) [] (He.ga K "law") fd ∧ FnG K mg "law" 1 0 [] (He.ga K "law") fd [(Str.ofString "_law_script")] := by
  obtain ⟨fd, F⟩ := c.def_ 42 (d := d_law) rfl
  exact ⟨fd, F, fnG0 F (He.glo_ok X G (c.fact 35 (f := .glo "law") rfl)) rfl fun _ _ _ _ _ _ us hl => match us, hl with | [_], _ => rfl⟩
def kg_0 {α : Type} (us its ws : List α) : List α := (us.drop 0).take 1 ++ (us.drop 1).take 1 ++ (us.drop 2).take 1 ++ (us.drop 3).take 1 ++ (ws.drop 0).take 1
theorem kok_0 {CX : CXT} {P : Program} {w : World} {base : Heap} {lv : Nat} {sp : DSp} {K : PySem.W.Frag} {mg : Str → Option Value} {fd : FuncData} (F : FunD K "__init__" "HalfPlane.__init__" (defArgs (mth 13 0)) (defBody (mth 13 0)) (defScope (mth 13 0)) (d_HalfPlane_init.dvs K) [] (He.fAd K ("HalfPlane", some "__init__")) fd) (Mk : Mk K (He.ga K "HalfPlane") (He.fAd K ("HalfPlane", some "__init__"))) (Fo : FnOk P w K mg base CX lv (He.fAd K ("HalfPlane", some "__init__")) fd [(Str.ofString "self"), (Str.ofString "p"), (Str.ofString "q"), (Str.ofString "r"), (Str.ofString "strict")] (liftSp K 5 sp)) : KwcOk CX P w K mg base (lv + 1) (He.ga K "HalfPlane") 3 [(Str.ofString "strict")] [.inl 0, .inl 1, .inl 2, .inl 3] (some (4, sp, [(.bl false)])) := by
  obtain ⟨its, hb⟩ := F.kbindsD (ps := [(Str.ofString "self"), (Str.ofString "p"), (Str.ofString "q"), (Str.ofString "r"), (Str.ofString "strict")]) 4 [(Str.ofString "strict")] (fun {α} us its ws => kg_0 (α := α) us its ws) (by intro z; cases z) (fun a b c => (Vals.append (Vals.append (Vals.append (Vals.append ((Vals.drop 0 a).take 1) ((Vals.drop 1 a).take 1)) ((Vals.drop 2 a).take 1)) ((Vals.drop 3 a).take 1)) ((Vals.drop 0 c).take 1))) (fun _ _ _ _ _ _ _ us its ws h1 h2 h3 => match us, its, ws, h1, h2, h3 with | [_, _, _, _], [_], [_], _, _, _ => ⟨_, rfl, by kernel_rfl⟩)
  exact ⟨lv, (He.fAd K ("HalfPlane", some "__init__")), fd, _, _, _, Nat.le_refl _, Mk, Fo, hb, fun H d v ds vs es zs h1 h2 r0 r1 r2 => match ds, vs, es, zs, h1, h2, r1, r2 with | [_, _, _], [_, _, _], [_], [_], _, _, .cons u1 (.cons u2 (.cons u3 (.nil))), .cons z0 (.nil) => ⟨.cons r0 (.cons u1 (.cons u2 (.cons u3 (.cons z0 (.nil))))), rfl⟩⟩
theorem kw_none {g np : Nat} {ks : List Str} {pat : List (Sum Nat D)} (h : kwc0 g np ks = some pat) : (g = 148 ∧ np = 3 ∧ ks = [(Str.ofString "strict")] ∧ pat = [.inl 0, .inl 1, .inl 2, .inl 3]) := by
  unfold kwc0 at h
  split at h
  · rename_i h1
    cases h
    exact ⟨h1.1, h1.2.1, h1.2.2, rfl⟩
  ·
    cases h
theorem gm_ok {w : World} {K : PySem.W.Frag} {h : Heap} {mg : Str → Option Value} {base : Heap} (X : K.In h) (G : h.Ns mainGlobals mg) (c : DL.SaysQ fal fnl psl K) (ce : exl K = true) (XB : K.In base) (GB : base.Ns mainGlobals mg) : GM (L2.CX PySem.Challenge.pw_dryholds_k17_half_planes_made_and_asked w) PySem.Challenge.pw_dryholds_k17_half_planes_made_and_asked w K mg base t0 (gm0 K (gv0 K) kwc0) 2 := by
  obtain ⟨e0, ce⟩ := bAnd ce
  obtain ⟨e1, ce⟩ := bAnd ce
  obtain ⟨e2, ce⟩ := bAnd ce
  obtain ⟨e3, ce⟩ := bAnd ce
  obtain ⟨e4, ce⟩ := bAnd ce
  obtain ⟨e5, ce⟩ := bAnd ce
  obtain ⟨e6, ce⟩ := bAnd ce
  obtain ⟨e7, ce⟩ := bAnd ce
  obtain ⟨e8, ce⟩ := bAnd ce
  obtain ⟨e9, ce⟩ := bAnd ce
  obtain ⟨e10, ce⟩ := bAnd ce
  obtain ⟨e11, ce⟩ := bAnd ce
  obtain ⟨e12, ce⟩ := bAnd ce
  obtain ⟨e13, ce⟩ := bAnd ce
  obtain ⟨e14, ce⟩ := bAnd ce
  obtain ⟨e15, ce⟩ := bAnd ce
  obtain ⟨e16, ce⟩ := bAnd ce
  obtain ⟨e17, ce⟩ := bAnd ce
  obtain ⟨e18, ce⟩ := bAnd ce
  obtain ⟨e19, ce⟩ := bAnd ce
  obtain ⟨e20, ce⟩ := bAnd ce
  obtain ⟨e21, ce⟩ := bAnd ce
  obtain ⟨e22, ce⟩ := bAnd ce
  obtain ⟨e23, ce⟩ := bAnd ce
  obtain ⟨e24, ce⟩ := bAnd ce
  obtain ⟨e25, ce⟩ := bAnd ce
  obtain ⟨e26, ce⟩ := bAnd ce
  obtain ⟨e27, ce⟩ := bAnd ce
  obtain ⟨e28, ce⟩ := bAnd ce
  obtain ⟨e29, ce⟩ := bAnd ce
  have hk0 : ∀ g x nk np ks pat n2 sp dfl, t0.gn[g]? = some (x, some nk) → gv0 K g = .fn n2 sp dfl → kwc0 g np ks = some pat → KwOk (L2.CX PySem.Challenge.pw_dryholds_k17_half_planes_made_and_asked w) PySem.Challenge.pw_dryholds_k17_half_planes_made_and_asked w K mg base 2 x n2 sp np ks pat := by
    intro g x nk np ks pat n2 sp dfl h1 h2 h3
    rcases kw_none h3 with ⟨rfl, rfl, rfl, rfl⟩
    · cases h2
  refine gm0_ok (fun x hx => He.free_ok X G (c.facts (f := .free x) (List.mem_append_right _ (List.mem_map_of_mem hx)))) ⟨fun hz => PySem.W.mg_of X G (of_decide_eq_true e0), fun hz => PySem.W.mg_of X G (of_decide_eq_true e1)⟩ (fun g x o hg => ?_) hk0 (fun g C i h => ?_)
  rotate_left
  · unfold gv0 at h; split at h <;> first | (cases h; done) | (cases h; rfl)
  match g, hg with
  | 0, hg =>
    have hg : some (((Str.ofString "ShipError"), none) : Str × Option (Nat × Nat)) = some (x, o) := hg
    cases hg
    exact (He.glo_ok X G (c.fact 36 (f := .glo "ShipError") rfl))
  | 1, hg =>
    have hg : some (((Str.ofString "law"), some (1, 0)) : Str × Option (Nat × Nat)) = some (x, o) := hg
    cases hg
    obtain ⟨fd, F, gg⟩ := fg_law X G c
    exact gg.glob fnNo
  | 2, hg =>
    have hg : some (((Str.ofString "law"), some (1, 0)) : Str × Option (Nat × Nat)) = some (x, o) := hg
    cases hg
    obtain ⟨fd, F, gg⟩ := fg_law X G c
    exact gg.glob fnNo
  | 3, hg =>
    have hg : some (((Str.ofString "law"), some (1, 0)) : Str × Option (Nat × Nat)) = some (x, o) := hg
    cases hg
    obtain ⟨fd, F, gg⟩ := fg_law X G c
    exact gg.glob fnNo
  | 4, hg =>
    have hg : some (((Str.ofString "is_whole"), some (3, 2)) : Str × Option (Nat × Nat)) = some (x, o) := hg
    cases hg
    obtain ⟨fd, F, gg⟩ := fg_is_whole X G c
    exact gg.glob fnNo
  | 5, hg =>
    have hg : some (((Str.ofString "is_ratio"), some (1, 0)) : Str × Option (Nat × Nat)) = some (x, o) := hg
    cases hg
    obtain ⟨fd, F, gg⟩ := fg_is_ratio X G c
    exact gg.glob fnNo
  | 6, hg =>
    have hg : some (((Str.ofString "law"), some (1, 0)) : Str × Option (Nat × Nat)) = some (x, o) := hg
    cases hg
    obtain ⟨fd, F, gg⟩ := fg_law X G c
    exact gg.glob fnNo
  | 7, hg =>
    have hg : some (((Str.ofString "lowest"), some (2, 0)) : Str × Option (Nat × Nat)) = some (x, o) := hg
    cases hg
    obtain ⟨fd, F, gg⟩ := fg_lowest X G c
    exact gg.glob fnNo
  | 8, hg =>
    have hg : some (((Str.ofString "plus"), some (2, 0)) : Str × Option (Nat × Nat)) = some (x, o) := hg
    cases hg
    obtain ⟨fd, F, gg⟩ := fg_plus X G c
    exact gg.glob fnNo
  | 9, hg =>
    have hg : some (((Str.ofString "minus"), some (2, 0)) : Str × Option (Nat × Nat)) = some (x, o) := hg
    cases hg
    obtain ⟨fd, F, gg⟩ := fg_minus X G c
    exact gg.glob fnNo
  | 10, hg =>
    have hg : some (((Str.ofString "times"), some (2, 0)) : Str × Option (Nat × Nat)) = some (x, o) := hg
    cases hg
    obtain ⟨fd, F, gg⟩ := fg_times X G c
    exact gg.glob fnNo
  | 11, hg =>
    have hg : some (((Str.ofString "law"), some (1, 0)) : Str × Option (Nat × Nat)) = some (x, o) := hg
    cases hg
    obtain ⟨fd, F, gg⟩ := fg_law X G c
    exact gg.glob fnNo
  | 12, hg =>
    have hg : some (((Str.ofString "negative"), some (1, 0)) : Str × Option (Nat × Nat)) = some (x, o) := hg
    cases hg
    obtain ⟨fd, F, gg⟩ := fg_negative X G c
    exact gg.glob fnNo
  | 13, hg =>
    have hg : some (((Str.ofString "law"), some (1, 0)) : Str × Option (Nat × Nat)) = some (x, o) := hg
    cases hg
    obtain ⟨fd, F, gg⟩ := fg_law X G c
    exact gg.glob fnNo
  | 14, hg =>
    have hg : some (((Str.ofString "law"), some (1, 0)) : Str × Option (Nat × Nat)) = some (x, o) := hg
    cases hg
    obtain ⟨fd, F, gg⟩ := fg_law X G c
    exact gg.glob fnNo
  | 15, hg =>
    have hg : some (((Str.ofString "law"), some (1, 0)) : Str × Option (Nat × Nat)) = some (x, o) := hg
    cases hg
    obtain ⟨fd, F, gg⟩ := fg_law X G c
    exact gg.glob fnNo
  | 16, hg =>
    have hg : some (((Str.ofString "law"), some (1, 0)) : Str × Option (Nat × Nat)) = some (x, o) := hg
    cases hg
    obtain ⟨fd, F, gg⟩ := fg_law X G c
    exact gg.glob fnNo
  | 17, hg =>
    have hg : some (((Str.ofString "law"), some (1, 0)) : Str × Option (Nat × Nat)) = some (x, o) := hg
    cases hg
    obtain ⟨fd, F, gg⟩ := fg_law X G c
    exact gg.glob fnNo
  | 18, hg =>
    have hg : some (((Str.ofString "law"), some (1, 0)) : Str × Option (Nat × Nat)) = some (x, o) := hg
    cases hg
    obtain ⟨fd, F, gg⟩ := fg_law X G c
    exact gg.glob fnNo
  | 19, hg =>
    have hg : some (((Str.ofString "_law_mix"), some (2, 0)) : Str × Option (Nat × Nat)) = some (x, o) := hg
    cases hg
    obtain ⟨fd, F, gg⟩ := fg_law_mix X G c
    exact gg.glob fnNo
  | 20, hg =>
    have hg : some (((Str.ofString "_law_hand"), some (1, 0)) : Str × Option (Nat × Nat)) = some (x, o) := hg
    cases hg
    obtain ⟨fd, F, gg⟩ := fg_law_hand X G c
    exact gg.glob fnNo
  | 21, hg =>
    have hg : some (((Str.ofString "_law_draw"), some (2, 0)) : Str × Option (Nat × Nat)) = some (x, o) := hg
    cases hg
    obtain ⟨fd, F, gg⟩ := fg_law_draw X G c
    exact gg.glob fnNo
  | 22, hg =>
    have hg : some (((Str.ofString "_law_gcd"), some (2, 0)) : Str × Option (Nat × Nat)) = some (x, o) := hg
    cases hg
    obtain ⟨fd, F, gg⟩ := fg_law_gcd X G c
    exact gg.glob fnNo
  | 23, hg =>
    have hg : some (((Str.ofString "_law_ratio"), some (2, 0)) : Str × Option (Nat × Nat)) = some (x, o) := hg
    cases hg
    obtain ⟨fd, F, gg⟩ := fg_law_ratio X G c
    exact gg.glob fnNo
  | 24, hg =>
    have hg : some (((Str.ofString "_law_plus"), some (2, 0)) : Str × Option (Nat × Nat)) = some (x, o) := hg
    cases hg
    obtain ⟨fd, F, gg⟩ := fg_law_plus X G c
    exact gg.glob fnNo
  | 25, hg =>
    have hg : some (((Str.ofString "law"), some (1, 0)) : Str × Option (Nat × Nat)) = some (x, o) := hg
    cases hg
    obtain ⟨fd, F, gg⟩ := fg_law X G c
    exact gg.glob fnNo
  | 26, hg =>
    have hg : some (((Str.ofString "_law_times"), some (2, 0)) : Str × Option (Nat × Nat)) = some (x, o) := hg
    cases hg
    obtain ⟨fd, F, gg⟩ := fg_law_times X G c
    exact gg.glob fnNo
  | 27, hg =>
    have hg : some (((Str.ofString "law"), some (1, 0)) : Str × Option (Nat × Nat)) = some (x, o) := hg
    cases hg
    obtain ⟨fd, F, gg⟩ := fg_law X G c
    exact gg.glob fnNo
  | 28, hg =>
    have hg : some (((Str.ofString "law"), some (1, 0)) : Str × Option (Nat × Nat)) = some (x, o) := hg
    cases hg
    obtain ⟨fd, F, gg⟩ := fg_law X G c
    exact gg.glob fnNo
  | 29, hg =>
    have hg : some (((Str.ofString "law"), some (1, 0)) : Str × Option (Nat × Nat)) = some (x, o) := hg
    cases hg
    obtain ⟨fd, F, gg⟩ := fg_law X G c
    exact gg.glob fnNo
  | 30, hg =>
    have hg : some (((Str.ofString "_law_is_ratio"), some (1, 0)) : Str × Option (Nat × Nat)) = some (x, o) := hg
    cases hg
    obtain ⟨fd, F, gg⟩ := fg_law_is_ratio X G c
    exact gg.glob fnNo
  | 31, hg =>
    have hg : some (((Str.ofString "_law_refused"), some (2, 0)) : Str × Option (Nat × Nat)) = some (x, o) := hg
    cases hg
    obtain ⟨fd, F, gg⟩ := fg_law_refused X G c
    exact gg.glob fnNo
  | 32, hg =>
    have hg : some (((Str.ofString "law"), some (1, 0)) : Str × Option (Nat × Nat)) = some (x, o) := hg
    cases hg
    obtain ⟨fd, F, gg⟩ := fg_law X G c
    exact gg.glob fnNo
  | 33, hg =>
    have hg : some (((Str.ofString "law"), some (1, 0)) : Str × Option (Nat × Nat)) = some (x, o) := hg
    cases hg
    obtain ⟨fd, F, gg⟩ := fg_law X G c
    exact gg.glob fnNo
  | 34, hg =>
    have hg : some (((Str.ofString "law"), some (1, 0)) : Str × Option (Nat × Nat)) = some (x, o) := hg
    cases hg
    obtain ⟨fd, F, gg⟩ := fg_law X G c
    exact gg.glob fnNo
  | 35, hg =>
    have hg : some (((Str.ofString "law"), some (1, 0)) : Str × Option (Nat × Nat)) = some (x, o) := hg
    cases hg
    obtain ⟨fd, F, gg⟩ := fg_law X G c
    exact gg.glob fnNo
  | 36, hg =>
    have hg : some (((Str.ofString "law"), some (1, 0)) : Str × Option (Nat × Nat)) = some (x, o) := hg
    cases hg
    obtain ⟨fd, F, gg⟩ := fg_law X G c
    exact gg.glob fnNo
  | 37, hg =>
    have hg : some (((Str.ofString "law"), some (1, 0)) : Str × Option (Nat × Nat)) = some (x, o) := hg
    cases hg
    obtain ⟨fd, F, gg⟩ := fg_law X G c
    exact gg.glob fnNo
  | 38, hg =>
    have hg : some (((Str.ofString "law"), some (1, 0)) : Str × Option (Nat × Nat)) = some (x, o) := hg
    cases hg
    obtain ⟨fd, F, gg⟩ := fg_law X G c
    exact gg.glob fnNo
  | 39, hg =>
    have hg : some (((Str.ofString "law"), some (1, 0)) : Str × Option (Nat × Nat)) = some (x, o) := hg
    cases hg
    obtain ⟨fd, F, gg⟩ := fg_law X G c
    exact gg.glob fnNo
  | 40, hg =>
    have hg : some (((Str.ofString "law"), some (1, 0)) : Str × Option (Nat × Nat)) = some (x, o) := hg
    cases hg
    obtain ⟨fd, F, gg⟩ := fg_law X G c
    exact gg.glob fnNo
  | 41, hg =>
    have hg : some (((Str.ofString "law"), some (1, 0)) : Str × Option (Nat × Nat)) = some (x, o) := hg
    cases hg
    obtain ⟨fd, F, gg⟩ := fg_law X G c
    exact gg.glob fnNo
  | 42, hg =>
    have hg : some (((Str.ofString "law"), some (1, 0)) : Str × Option (Nat × Nat)) = some (x, o) := hg
    cases hg
    obtain ⟨fd, F, gg⟩ := fg_law X G c
    exact gg.glob fnNo
  | 43, hg =>
    have hg : some (((Str.ofString "law"), some (1, 0)) : Str × Option (Nat × Nat)) = some (x, o) := hg
    cases hg
    obtain ⟨fd, F, gg⟩ := fg_law X G c
    exact gg.glob fnNo
  | 44, hg =>
    have hg : some (((Str.ofString "law"), some (1, 0)) : Str × Option (Nat × Nat)) = some (x, o) := hg
    cases hg
    obtain ⟨fd, F, gg⟩ := fg_law X G c
    exact gg.glob fnNo
  | 45, hg =>
    have hg : some (((Str.ofString "law"), some (1, 0)) : Str × Option (Nat × Nat)) = some (x, o) := hg
    cases hg
    obtain ⟨fd, F, gg⟩ := fg_law X G c
    exact gg.glob fnNo
  | 46, hg =>
    have hg : some (((Str.ofString "law"), some (1, 0)) : Str × Option (Nat × Nat)) = some (x, o) := hg
    cases hg
    obtain ⟨fd, F, gg⟩ := fg_law X G c
    exact gg.glob fnNo
  | 47, hg =>
    have hg : some (((Str.ofString "law"), some (1, 0)) : Str × Option (Nat × Nat)) = some (x, o) := hg
    cases hg
    obtain ⟨fd, F, gg⟩ := fg_law X G c
    exact gg.glob fnNo
  | 48, hg =>
    have hg : some (((Str.ofString "law"), some (1, 0)) : Str × Option (Nat × Nat)) = some (x, o) := hg
    cases hg
    obtain ⟨fd, F, gg⟩ := fg_law X G c
    exact gg.glob fnNo
  | 49, hg =>
    have hg : some (((Str.ofString "_law_pick"), some (2, 0)) : Str × Option (Nat × Nat)) = some (x, o) := hg
    cases hg
    obtain ⟨fd, F, gg⟩ := fg_law_pick X G c
    exact gg.glob fnNo
  | 50, hg =>
    have hg : some (((Str.ofString "law"), some (1, 0)) : Str × Option (Nat × Nat)) = some (x, o) := hg
    cases hg
    obtain ⟨fd, F, gg⟩ := fg_law X G c
    exact gg.glob fnNo
  | 51, hg =>
    have hg : some (((Str.ofString "law"), some (1, 0)) : Str × Option (Nat × Nat)) = some (x, o) := hg
    cases hg
    obtain ⟨fd, F, gg⟩ := fg_law X G c
    exact gg.glob fnNo
  | 52, hg =>
    have hg : some (((Str.ofString "law"), some (1, 0)) : Str × Option (Nat × Nat)) = some (x, o) := hg
    cases hg
    obtain ⟨fd, F, gg⟩ := fg_law X G c
    exact gg.glob fnNo
  | 53, hg =>
    have hg : some (((Str.ofString "law"), some (1, 0)) : Str × Option (Nat × Nat)) = some (x, o) := hg
    cases hg
    obtain ⟨fd, F, gg⟩ := fg_law X G c
    exact gg.glob fnNo
  | 54, hg =>
    have hg : some (((Str.ofString "law"), some (1, 0)) : Str × Option (Nat × Nat)) = some (x, o) := hg
    cases hg
    obtain ⟨fd, F, gg⟩ := fg_law X G c
    exact gg.glob fnNo
  | 55, hg =>
    have hg : some (((Str.ofString "law"), some (1, 0)) : Str × Option (Nat × Nat)) = some (x, o) := hg
    cases hg
    obtain ⟨fd, F, gg⟩ := fg_law X G c
    exact gg.glob fnNo
  | 56, hg =>
    have hg : some (((Str.ofString "law"), some (1, 0)) : Str × Option (Nat × Nat)) = some (x, o) := hg
    cases hg
    obtain ⟨fd, F, gg⟩ := fg_law X G c
    exact gg.glob fnNo
  | 57, hg =>
    have hg : some (((Str.ofString "law"), some (1, 0)) : Str × Option (Nat × Nat)) = some (x, o) := hg
    cases hg
    obtain ⟨fd, F, gg⟩ := fg_law X G c
    exact gg.glob fnNo
  | 58, hg =>
    have hg : some (((Str.ofString "law"), some (1, 0)) : Str × Option (Nat × Nat)) = some (x, o) := hg
    cases hg
    obtain ⟨fd, F, gg⟩ := fg_law X G c
    exact gg.glob fnNo
  | 59, hg =>
    have hg : some (((Str.ofString "law"), some (1, 0)) : Str × Option (Nat × Nat)) = some (x, o) := hg
    cases hg
    obtain ⟨fd, F, gg⟩ := fg_law X G c
    exact gg.glob fnNo
  | 60, hg =>
    have hg : some (((Str.ofString "law"), some (1, 0)) : Str × Option (Nat × Nat)) = some (x, o) := hg
    cases hg
    obtain ⟨fd, F, gg⟩ := fg_law X G c
    exact gg.glob fnNo
  | 61, hg =>
    have hg : some (((Str.ofString "law"), some (1, 0)) : Str × Option (Nat × Nat)) = some (x, o) := hg
    cases hg
    obtain ⟨fd, F, gg⟩ := fg_law X G c
    exact gg.glob fnNo
  | 62, hg =>
    have hg : some (((Str.ofString "law"), some (1, 0)) : Str × Option (Nat × Nat)) = some (x, o) := hg
    cases hg
    obtain ⟨fd, F, gg⟩ := fg_law X G c
    exact gg.glob fnNo
  | 63, hg =>
    have hg : some (((Str.ofString "law"), some (1, 0)) : Str × Option (Nat × Nat)) = some (x, o) := hg
    cases hg
    obtain ⟨fd, F, gg⟩ := fg_law X G c
    exact gg.glob fnNo
  | 64, hg =>
    have hg : some (((Str.ofString "law"), some (1, 0)) : Str × Option (Nat × Nat)) = some (x, o) := hg
    cases hg
    obtain ⟨fd, F, gg⟩ := fg_law X G c
    exact gg.glob fnNo
  | 65, hg =>
    have hg : some (((Str.ofString "_law_told"), some (1, 0)) : Str × Option (Nat × Nat)) = some (x, o) := hg
    cases hg
    obtain ⟨fd, F, gg⟩ := fg_law_told X G c
    exact gg.glob fnNo
  | 66, hg =>
    have hg : some (((Str.ofString "law"), some (1, 0)) : Str × Option (Nat × Nat)) = some (x, o) := hg
    cases hg
    obtain ⟨fd, F, gg⟩ := fg_law X G c
    exact gg.glob fnNo
  | 67, hg =>
    have hg : some (((Str.ofString "law"), some (1, 0)) : Str × Option (Nat × Nat)) = some (x, o) := hg
    cases hg
    obtain ⟨fd, F, gg⟩ := fg_law X G c
    exact gg.glob fnNo
  | 68, hg =>
    have hg : some (((Str.ofString "law"), some (1, 0)) : Str × Option (Nat × Nat)) = some (x, o) := hg
    cases hg
    obtain ⟨fd, F, gg⟩ := fg_law X G c
    exact gg.glob fnNo
  | 69, hg =>
    have hg : some (((Str.ofString "law"), some (1, 0)) : Str × Option (Nat × Nat)) = some (x, o) := hg
    cases hg
    obtain ⟨fd, F, gg⟩ := fg_law X G c
    exact gg.glob fnNo
  | 70, hg =>
    have hg : some (((Str.ofString "law"), some (1, 0)) : Str × Option (Nat × Nat)) = some (x, o) := hg
    cases hg
    obtain ⟨fd, F, gg⟩ := fg_law X G c
    exact gg.glob fnNo
  | 71, hg =>
    have hg : some (((Str.ofString "law"), some (1, 0)) : Str × Option (Nat × Nat)) = some (x, o) := hg
    cases hg
    obtain ⟨fd, F, gg⟩ := fg_law X G c
    exact gg.glob fnNo
  | 72, hg =>
    have hg : some (((Str.ofString "law"), some (1, 0)) : Str × Option (Nat × Nat)) = some (x, o) := hg
    cases hg
    obtain ⟨fd, F, gg⟩ := fg_law X G c
    exact gg.glob fnNo
  | 73, hg =>
    have hg : some (((Str.ofString "law"), some (1, 0)) : Str × Option (Nat × Nat)) = some (x, o) := hg
    cases hg
    obtain ⟨fd, F, gg⟩ := fg_law X G c
    exact gg.glob fnNo
  | 74, hg =>
    have hg : some (((Str.ofString "law"), some (1, 0)) : Str × Option (Nat × Nat)) = some (x, o) := hg
    cases hg
    obtain ⟨fd, F, gg⟩ := fg_law X G c
    exact gg.glob fnNo
  | 75, hg =>
    have hg : some (((Str.ofString "law"), some (1, 0)) : Str × Option (Nat × Nat)) = some (x, o) := hg
    cases hg
    obtain ⟨fd, F, gg⟩ := fg_law X G c
    exact gg.glob fnNo
  | 76, hg =>
    have hg : some (((Str.ofString "law"), some (1, 0)) : Str × Option (Nat × Nat)) = some (x, o) := hg
    cases hg
    obtain ⟨fd, F, gg⟩ := fg_law X G c
    exact gg.glob fnNo
  | 77, hg =>
    have hg : some (((Str.ofString "law"), some (1, 0)) : Str × Option (Nat × Nat)) = some (x, o) := hg
    cases hg
    obtain ⟨fd, F, gg⟩ := fg_law X G c
    exact gg.glob fnNo
  | 78, hg =>
    have hg : some (((Str.ofString "law"), some (1, 0)) : Str × Option (Nat × Nat)) = some (x, o) := hg
    cases hg
    obtain ⟨fd, F, gg⟩ := fg_law X G c
    exact gg.glob fnNo
  | 79, hg =>
    have hg : some (((Str.ofString "law"), some (1, 0)) : Str × Option (Nat × Nat)) = some (x, o) := hg
    cases hg
    obtain ⟨fd, F, gg⟩ := fg_law X G c
    exact gg.glob fnNo
  | 80, hg =>
    have hg : some (((Str.ofString "law"), some (1, 0)) : Str × Option (Nat × Nat)) = some (x, o) := hg
    cases hg
    obtain ⟨fd, F, gg⟩ := fg_law X G c
    exact gg.glob fnNo
  | 81, hg =>
    have hg : some (((Str.ofString "law"), some (1, 0)) : Str × Option (Nat × Nat)) = some (x, o) := hg
    cases hg
    obtain ⟨fd, F, gg⟩ := fg_law X G c
    exact gg.glob fnNo
  | 82, hg =>
    have hg : some (((Str.ofString "law"), some (1, 0)) : Str × Option (Nat × Nat)) = some (x, o) := hg
    cases hg
    obtain ⟨fd, F, gg⟩ := fg_law X G c
    exact gg.glob fnNo
  | 83, hg =>
    have hg : some (((Str.ofString "law"), some (1, 0)) : Str × Option (Nat × Nat)) = some (x, o) := hg
    cases hg
    obtain ⟨fd, F, gg⟩ := fg_law X G c
    exact gg.glob fnNo
  | 84, hg =>
    have hg : some (((Str.ofString "law"), some (1, 0)) : Str × Option (Nat × Nat)) = some (x, o) := hg
    cases hg
    obtain ⟨fd, F, gg⟩ := fg_law X G c
    exact gg.glob fnNo
  | 85, hg =>
    have hg : some (((Str.ofString "law"), some (1, 0)) : Str × Option (Nat × Nat)) = some (x, o) := hg
    cases hg
    obtain ⟨fd, F, gg⟩ := fg_law X G c
    exact gg.glob fnNo
  | 86, hg =>
    have hg : some (((Str.ofString "law"), some (1, 0)) : Str × Option (Nat × Nat)) = some (x, o) := hg
    cases hg
    obtain ⟨fd, F, gg⟩ := fg_law X G c
    exact gg.glob fnNo
  | 87, hg =>
    have hg : some (((Str.ofString "law"), some (1, 0)) : Str × Option (Nat × Nat)) = some (x, o) := hg
    cases hg
    obtain ⟨fd, F, gg⟩ := fg_law X G c
    exact gg.glob fnNo
  | 88, hg =>
    have hg : some (((Str.ofString "law"), some (1, 0)) : Str × Option (Nat × Nat)) = some (x, o) := hg
    cases hg
    obtain ⟨fd, F, gg⟩ := fg_law X G c
    exact gg.glob fnNo
  | 89, hg =>
    have hg : some (((Str.ofString "law"), some (1, 0)) : Str × Option (Nat × Nat)) = some (x, o) := hg
    cases hg
    obtain ⟨fd, F, gg⟩ := fg_law X G c
    exact gg.glob fnNo
  | 90, hg =>
    have hg : some (((Str.ofString "law"), some (1, 0)) : Str × Option (Nat × Nat)) = some (x, o) := hg
    cases hg
    obtain ⟨fd, F, gg⟩ := fg_law X G c
    exact gg.glob fnNo
  | 91, hg =>
    have hg : some (((Str.ofString "law"), some (1, 0)) : Str × Option (Nat × Nat)) = some (x, o) := hg
    cases hg
    obtain ⟨fd, F, gg⟩ := fg_law X G c
    exact gg.glob fnNo
  | 92, hg =>
    have hg : some (((Str.ofString "law"), some (1, 0)) : Str × Option (Nat × Nat)) = some (x, o) := hg
    cases hg
    obtain ⟨fd, F, gg⟩ := fg_law X G c
    exact gg.glob fnNo
  | 93, hg =>
    have hg : some (((Str.ofString "law"), some (1, 0)) : Str × Option (Nat × Nat)) = some (x, o) := hg
    cases hg
    obtain ⟨fd, F, gg⟩ := fg_law X G c
    exact gg.glob fnNo
  | 94, hg =>
    have hg : some (((Str.ofString "law"), some (1, 0)) : Str × Option (Nat × Nat)) = some (x, o) := hg
    cases hg
    obtain ⟨fd, F, gg⟩ := fg_law X G c
    exact gg.glob fnNo
  | 95, hg =>
    have hg : some (((Str.ofString "law"), some (1, 0)) : Str × Option (Nat × Nat)) = some (x, o) := hg
    cases hg
    obtain ⟨fd, F, gg⟩ := fg_law X G c
    exact gg.glob fnNo
  | 96, hg =>
    have hg : some (((Str.ofString "law"), some (1, 0)) : Str × Option (Nat × Nat)) = some (x, o) := hg
    cases hg
    obtain ⟨fd, F, gg⟩ := fg_law X G c
    exact gg.glob fnNo
  | 97, hg =>
    have hg : some (((Str.ofString "law"), some (1, 0)) : Str × Option (Nat × Nat)) = some (x, o) := hg
    cases hg
    obtain ⟨fd, F, gg⟩ := fg_law X G c
    exact gg.glob fnNo
  | 98, hg =>
    have hg : some (((Str.ofString "law"), some (1, 0)) : Str × Option (Nat × Nat)) = some (x, o) := hg
    cases hg
    obtain ⟨fd, F, gg⟩ := fg_law X G c
    exact gg.glob fnNo
  | 99, hg =>
    have hg : some (((Str.ofString "law"), some (1, 0)) : Str × Option (Nat × Nat)) = some (x, o) := hg
    cases hg
    obtain ⟨fd, F, gg⟩ := fg_law X G c
    exact gg.glob fnNo
  | 100, hg =>
    have hg : some (((Str.ofString "law"), some (1, 0)) : Str × Option (Nat × Nat)) = some (x, o) := hg
    cases hg
    obtain ⟨fd, F, gg⟩ := fg_law X G c
    exact gg.glob fnNo
  | 101, hg =>
    have hg : some (((Str.ofString "law"), some (1, 0)) : Str × Option (Nat × Nat)) = some (x, o) := hg
    cases hg
    obtain ⟨fd, F, gg⟩ := fg_law X G c
    exact gg.glob fnNo
  | 102, hg =>
    have hg : some (((Str.ofString "law"), some (1, 0)) : Str × Option (Nat × Nat)) = some (x, o) := hg
    cases hg
    obtain ⟨fd, F, gg⟩ := fg_law X G c
    exact gg.glob fnNo
  | 103, hg =>
    have hg : some (((Str.ofString "law"), some (1, 0)) : Str × Option (Nat × Nat)) = some (x, o) := hg
    cases hg
    obtain ⟨fd, F, gg⟩ := fg_law X G c
    exact gg.glob fnNo
  | 104, hg =>
    have hg : some (((Str.ofString "law"), some (1, 0)) : Str × Option (Nat × Nat)) = some (x, o) := hg
    cases hg
    obtain ⟨fd, F, gg⟩ := fg_law X G c
    exact gg.glob fnNo
  | 105, hg =>
    have hg : some (((Str.ofString "law"), some (1, 0)) : Str × Option (Nat × Nat)) = some (x, o) := hg
    cases hg
    obtain ⟨fd, F, gg⟩ := fg_law X G c
    exact gg.glob fnNo
  | 106, hg =>
    have hg : some (((Str.ofString "law"), some (1, 0)) : Str × Option (Nat × Nat)) = some (x, o) := hg
    cases hg
    obtain ⟨fd, F, gg⟩ := fg_law X G c
    exact gg.glob fnNo
  | 107, hg =>
    have hg : some (((Str.ofString "law"), some (1, 0)) : Str × Option (Nat × Nat)) = some (x, o) := hg
    cases hg
    obtain ⟨fd, F, gg⟩ := fg_law X G c
    exact gg.glob fnNo
  | 108, hg =>
    have hg : some (((Str.ofString "law"), some (1, 0)) : Str × Option (Nat × Nat)) = some (x, o) := hg
    cases hg
    obtain ⟨fd, F, gg⟩ := fg_law X G c
    exact gg.glob fnNo
  | 109, hg =>
    have hg : some (((Str.ofString "law"), some (1, 0)) : Str × Option (Nat × Nat)) = some (x, o) := hg
    cases hg
    obtain ⟨fd, F, gg⟩ := fg_law X G c
    exact gg.glob fnNo
  | 110, hg =>
    have hg : some (((Str.ofString "law"), some (1, 0)) : Str × Option (Nat × Nat)) = some (x, o) := hg
    cases hg
    obtain ⟨fd, F, gg⟩ := fg_law X G c
    exact gg.glob fnNo
  | 111, hg =>
    have hg : some (((Str.ofString "law"), some (1, 0)) : Str × Option (Nat × Nat)) = some (x, o) := hg
    cases hg
    obtain ⟨fd, F, gg⟩ := fg_law X G c
    exact gg.glob fnNo
  | 112, hg =>
    have hg : some (((Str.ofString "law"), some (1, 0)) : Str × Option (Nat × Nat)) = some (x, o) := hg
    cases hg
    obtain ⟨fd, F, gg⟩ := fg_law X G c
    exact gg.glob fnNo
  | 113, hg =>
    have hg : some (((Str.ofString "law"), some (1, 0)) : Str × Option (Nat × Nat)) = some (x, o) := hg
    cases hg
    obtain ⟨fd, F, gg⟩ := fg_law X G c
    exact gg.glob fnNo
  | 114, hg =>
    have hg : some (((Str.ofString "law"), some (1, 0)) : Str × Option (Nat × Nat)) = some (x, o) := hg
    cases hg
    obtain ⟨fd, F, gg⟩ := fg_law X G c
    exact gg.glob fnNo
  | 115, hg =>
    have hg : some (((Str.ofString "law"), some (1, 0)) : Str × Option (Nat × Nat)) = some (x, o) := hg
    cases hg
    obtain ⟨fd, F, gg⟩ := fg_law X G c
    exact gg.glob fnNo
  | 116, hg =>
    have hg : some (((Str.ofString "law"), some (1, 0)) : Str × Option (Nat × Nat)) = some (x, o) := hg
    cases hg
    obtain ⟨fd, F, gg⟩ := fg_law X G c
    exact gg.glob fnNo
  | 117, hg =>
    have hg : some (((Str.ofString "law"), some (1, 0)) : Str × Option (Nat × Nat)) = some (x, o) := hg
    cases hg
    obtain ⟨fd, F, gg⟩ := fg_law X G c
    exact gg.glob fnNo
  | 118, hg =>
    have hg : some (((Str.ofString "law"), some (1, 0)) : Str × Option (Nat × Nat)) = some (x, o) := hg
    cases hg
    obtain ⟨fd, F, gg⟩ := fg_law X G c
    exact gg.glob fnNo
  | 119, hg =>
    have hg : some (((Str.ofString "law"), some (1, 0)) : Str × Option (Nat × Nat)) = some (x, o) := hg
    cases hg
    obtain ⟨fd, F, gg⟩ := fg_law X G c
    exact gg.glob fnNo
  | 120, hg =>
    have hg : some (((Str.ofString "law"), some (1, 0)) : Str × Option (Nat × Nat)) = some (x, o) := hg
    cases hg
    obtain ⟨fd, F, gg⟩ := fg_law X G c
    exact gg.glob fnNo
  | 121, hg =>
    have hg : some (((Str.ofString "law"), some (1, 0)) : Str × Option (Nat × Nat)) = some (x, o) := hg
    cases hg
    obtain ⟨fd, F, gg⟩ := fg_law X G c
    exact gg.glob fnNo
  | 122, hg =>
    have hg : some (((Str.ofString "law"), some (1, 0)) : Str × Option (Nat × Nat)) = some (x, o) := hg
    cases hg
    obtain ⟨fd, F, gg⟩ := fg_law X G c
    exact gg.glob fnNo
  | 123, hg =>
    have hg : some (((Str.ofString "law"), some (1, 0)) : Str × Option (Nat × Nat)) = some (x, o) := hg
    cases hg
    obtain ⟨fd, F, gg⟩ := fg_law X G c
    exact gg.glob fnNo
  | 124, hg =>
    have hg : some (((Str.ofString "law"), some (1, 0)) : Str × Option (Nat × Nat)) = some (x, o) := hg
    cases hg
    obtain ⟨fd, F, gg⟩ := fg_law X G c
    exact gg.glob fnNo
  | 125, hg =>
    have hg : some (((Str.ofString "law"), some (1, 0)) : Str × Option (Nat × Nat)) = some (x, o) := hg
    cases hg
    obtain ⟨fd, F, gg⟩ := fg_law X G c
    exact gg.glob fnNo
  | 126, hg =>
    have hg : some (((Str.ofString "law"), some (1, 0)) : Str × Option (Nat × Nat)) = some (x, o) := hg
    cases hg
    obtain ⟨fd, F, gg⟩ := fg_law X G c
    exact gg.glob fnNo
  | 127, hg =>
    have hg : some (((Str.ofString "law"), some (1, 0)) : Str × Option (Nat × Nat)) = some (x, o) := hg
    cases hg
    obtain ⟨fd, F, gg⟩ := fg_law X G c
    exact gg.glob fnNo
  | 128, hg =>
    have hg : some (((Str.ofString "law"), some (1, 0)) : Str × Option (Nat × Nat)) = some (x, o) := hg
    cases hg
    obtain ⟨fd, F, gg⟩ := fg_law X G c
    exact gg.glob fnNo
  | 129, hg =>
    have hg : some (((Str.ofString "law"), some (1, 0)) : Str × Option (Nat × Nat)) = some (x, o) := hg
    cases hg
    obtain ⟨fd, F, gg⟩ := fg_law X G c
    exact gg.glob fnNo
  | 130, hg =>
    have hg : some (((Str.ofString "law"), some (1, 0)) : Str × Option (Nat × Nat)) = some (x, o) := hg
    cases hg
    obtain ⟨fd, F, gg⟩ := fg_law X G c
    exact gg.glob fnNo
  | 131, hg =>
    have hg : some (((Str.ofString "law"), some (1, 0)) : Str × Option (Nat × Nat)) = some (x, o) := hg
    cases hg
    obtain ⟨fd, F, gg⟩ := fg_law X G c
    exact gg.glob fnNo
  | 132, hg =>
    have hg : some (((Str.ofString "law"), some (1, 0)) : Str × Option (Nat × Nat)) = some (x, o) := hg
    cases hg
    obtain ⟨fd, F, gg⟩ := fg_law X G c
    exact gg.glob fnNo
  | 133, hg =>
    have hg : some (((Str.ofString "law"), some (1, 0)) : Str × Option (Nat × Nat)) = some (x, o) := hg
    cases hg
    obtain ⟨fd, F, gg⟩ := fg_law X G c
    exact gg.glob fnNo
  | 134, hg =>
    have hg : some (((Str.ofString "law"), some (1, 0)) : Str × Option (Nat × Nat)) = some (x, o) := hg
    cases hg
    obtain ⟨fd, F, gg⟩ := fg_law X G c
    exact gg.glob fnNo
  | 135, hg =>
    have hg : some (((Str.ofString "law"), some (1, 0)) : Str × Option (Nat × Nat)) = some (x, o) := hg
    cases hg
    obtain ⟨fd, F, gg⟩ := fg_law X G c
    exact gg.glob fnNo
  | 136, hg =>
    have hg : some (((Str.ofString "law"), some (1, 0)) : Str × Option (Nat × Nat)) = some (x, o) := hg
    cases hg
    obtain ⟨fd, F, gg⟩ := fg_law X G c
    exact gg.glob fnNo
  | 137, hg =>
    have hg : some (((Str.ofString "law"), some (1, 0)) : Str × Option (Nat × Nat)) = some (x, o) := hg
    cases hg
    obtain ⟨fd, F, gg⟩ := fg_law X G c
    exact gg.glob fnNo
  | 138, hg =>
    have hg : some (((Str.ofString "law"), some (1, 0)) : Str × Option (Nat × Nat)) = some (x, o) := hg
    cases hg
    obtain ⟨fd, F, gg⟩ := fg_law X G c
    exact gg.glob fnNo
  | 139, hg =>
    have hg : some (((Str.ofString "law"), some (1, 0)) : Str × Option (Nat × Nat)) = some (x, o) := hg
    cases hg
    obtain ⟨fd, F, gg⟩ := fg_law X G c
    exact gg.glob fnNo
  | 140, hg =>
    have hg : some (((Str.ofString "law"), some (1, 0)) : Str × Option (Nat × Nat)) = some (x, o) := hg
    cases hg
    obtain ⟨fd, F, gg⟩ := fg_law X G c
    exact gg.glob fnNo
  | 141, hg =>
    have hg : some (((Str.ofString "law"), some (1, 0)) : Str × Option (Nat × Nat)) = some (x, o) := hg
    cases hg
    obtain ⟨fd, F, gg⟩ := fg_law X G c
    exact gg.glob fnNo
  | 142, hg =>
    have hg : some (((Str.ofString "law"), some (1, 0)) : Str × Option (Nat × Nat)) = some (x, o) := hg
    cases hg
    obtain ⟨fd, F, gg⟩ := fg_law X G c
    exact gg.glob fnNo
  | 143, hg =>
    have hg : some (((Str.ofString "law"), some (1, 0)) : Str × Option (Nat × Nat)) = some (x, o) := hg
    cases hg
    obtain ⟨fd, F, gg⟩ := fg_law X G c
    exact gg.glob fnNo
  | 144, hg =>
    have hg : some (((Str.ofString "law"), some (1, 0)) : Str × Option (Nat × Nat)) = some (x, o) := hg
    cases hg
    obtain ⟨fd, F, gg⟩ := fg_law X G c
    exact gg.glob fnNo
  | 145, hg =>
    have hg : some (((Str.ofString "law"), some (1, 0)) : Str × Option (Nat × Nat)) = some (x, o) := hg
    cases hg
    obtain ⟨fd, F, gg⟩ := fg_law X G c
    exact gg.glob fnNo
  | 146, hg =>
    have hg : some (((Str.ofString "law"), some (1, 0)) : Str × Option (Nat × Nat)) = some (x, o) := hg
    cases hg
    obtain ⟨fd, F, gg⟩ := fg_law X G c
    exact gg.glob fnNo
  | 147, hg =>
    have hg : some (((Str.ofString "BadHalf"), none) : Str × Option (Nat × Nat)) = some (x, o) := hg
    cases hg
    exact ⟨(He.glo_ok X G (c.fact 37 (f := .glo "BadHalf") rfl)), errB_ok bindI_what e2 GB XB 0⟩
  | 148, hg =>
    have hg : some (((Str.ofString "HalfPlane"), none) : Str × Option (Nat × Nat)) = some (x, o) := hg
    cases hg
    exact ⟨(He.glo_ok X G (c.fact 38 (f := .glo "HalfPlane") rfl)), trivial⟩
  | 149, hg =>
    have hg : some (((Str.ofString "_row_of"), some (3, 0)) : Str × Option (Nat × Nat)) = some (x, o) := hg
    cases hg
    obtain ⟨fd, F, gg⟩ := fg_row_of X G c
    exact gg.glob fnNo
  | 150, hg =>
    have hg : some (((Str.ofString "_law_less"), some (2, 0)) : Str × Option (Nat × Nat)) = some (x, o) := hg
    cases hg
    obtain ⟨fd, F, gg⟩ := fg_law_less X G c
    exact gg.glob fnNo
  | 151, hg =>
    have hg : some (((Str.ofString "_law_is_whole"), some (1, 0)) : Str × Option (Nat × Nat)) = some (x, o) := hg
    cases hg
    obtain ⟨fd, F, gg⟩ := fg_law_is_whole X G c
    exact gg.glob fnNo
  | 152, hg =>
    have hg : some (((Str.ofString "_law_number"), some (1, 0)) : Str × Option (Nat × Nat)) = some (x, o) := hg
    cases hg
    obtain ⟨fd, F, gg⟩ := fg_law_number X G c
    exact gg.glob fnNo
  | 153, hg =>
    have hg : some (((Str.ofString "_law_any_ratio"), some (1, 0)) : Str × Option (Nat × Nat)) = some (x, o) := hg
    cases hg
    obtain ⟨fd, F, gg⟩ := fg_law_any_ratio X G c
    exact gg.glob fnNo
  | 154, hg =>
    have hg : some (((Str.ofString "_law_excess"), some (2, 0)) : Str × Option (Nat × Nat)) = some (x, o) := hg
    cases hg
    obtain ⟨fd, F, gg⟩ := fg_law_excess X G c
    exact gg.glob fnNo
  | 155, hg =>
    have hg : some (((Str.ofString "_law_is_in"), some (2, 0)) : Str × Option (Nat × Nat)) = some (x, o) := hg
    cases hg
    obtain ⟨fd, F, gg⟩ := fg_law_is_in X G c
    exact gg.glob fnNo
  | 156, hg =>
    have hg : some (((Str.ofString "_law_is_truth"), some (2, 0)) : Str × Option (Nat × Nat)) = some (x, o) := hg
    cases hg
    obtain ⟨fd, F, gg⟩ := fg_law_is_truth X G c
    exact gg.glob fnNo
  | 157, hg =>
    have hg : some (((Str.ofString "_law_drawn"), some (1, 0)) : Str × Option (Nat × Nat)) = some (x, o) := hg
    cases hg
    obtain ⟨fd, F, gg⟩ := fg_law_drawn X G c
    exact gg.glob fnNo
  | 158, hg =>
    have hg : some (((Str.ofString "_law_odd"), some (2, 0)) : Str × Option (Nat × Nat)) = some (x, o) := hg
    cases hg
    obtain ⟨fd, F, gg⟩ := fg_law_odd X G c
    exact gg.glob fnNo
  | 159, hg =>
    have hg : some (((Str.ofString "_law_row"), some (1, 0)) : Str × Option (Nat × Nat)) = some (x, o) := hg
    cases hg
    obtain ⟨fd, F, gg⟩ := fg_law_row X G c
    exact gg.glob fnNo
  | 160, hg =>
    have hg : some (((Str.ofString "_law_reach"), some (1, 0)) : Str × Option (Nat × Nat)) = some (x, o) := hg
    cases hg
    obtain ⟨fd, F, gg⟩ := fg_law_reach X G c
    exact gg.glob fnNo
  | 161, hg =>
    have hg : some (((Str.ofString "_law_points"), some (2, 0)) : Str × Option (Nat × Nat)) = some (x, o) := hg
    cases hg
    obtain ⟨fd, F, gg⟩ := fg_law_points X G c
    exact gg.glob fnNo
  | 162, hg =>
    have hg : some (((Str.ofString "_law_fits"), some (2, 0)) : Str × Option (Nat × Nat)) = some (x, o) := hg
    cases hg
    obtain ⟨fd, F, gg⟩ := fg_law_fits X G c
    exact gg.glob fnNo
  | 163, hg =>
    have hg : some (((Str.ofString "_law_is_told"), some (4, 0)) : Str × Option (Nat × Nat)) = some (x, o) := hg
    cases hg
    obtain ⟨fd, F, gg⟩ := fg_law_is_told X G c
    exact gg.glob fnNo
  | 164, hg =>
    have hg : some (((Str.ofString "_law_same_points"), some (2, 0)) : Str × Option (Nat × Nat)) = some (x, o) := hg
    cases hg
    obtain ⟨fd, F, gg⟩ := fg_law_same_points X G c
    exact gg.glob fnNo
  | 165, hg =>
    have hg : some (((Str.ofString "_law_compared"), some (4, 0)) : Str × Option (Nat × Nat)) = some (x, o) := hg
    cases hg
    obtain ⟨fd, F, gg⟩ := fg_law_compared X G c
    exact gg.glob fnNo
  | j + 166, hg => exact absurd (show (none : Option (Str × Option (Nat × Nat))) = some (x, o) from hg) (by intro z; cases z)
def cl17 (K : PySem.W.Frag) : Nat → Addr
  | 0 => He.ga K "ShipError"
  | 147 => He.ga K "BadHalf"
  | 148 => He.ga K "HalfPlane"
  | _ => 0
theorem facts {w : World} {K : PySem.W.Frag} {h : Heap} {mg : Str → Option Value} {fa : Addr} (X : K.In h) (G : h.Ns mainGlobals mg) (hfa : mg ("law" : Str) = some (.ref fa)) (c : DL.SaysQ fal fnl psl K) (ce : exl K = true) :
    ∃ fd : FuncData, (∀ (s : Shared) (v : Value), BindsTo s fd ⟨[v], []⟩ [("_law_script", v)]) ∧ ∀ base : Heap, K.In base → base.Ns mainGlobals mg → FnOk PySem.Challenge.pw_dryholds_k17_half_planes_made_and_asked w K mg base (L2.CX PySem.Challenge.pw_dryholds_k17_half_planes_made_and_asked w) 54 fa fd ["_law_script"] (spLawV K) := by
  obtain ⟨fd_law_hand, F_law_hand, g_law_hand⟩ := fg_law_hand X G c
  obtain ⟨fd_law_mix, F_law_mix, g_law_mix⟩ := fg_law_mix X G c
  obtain ⟨fd_law_draw, F_law_draw, g_law_draw⟩ := fg_law_draw X G c
  obtain ⟨fd_law_pick, F_law_pick, g_law_pick⟩ := fg_law_pick X G c
  obtain ⟨fd_law_number, F_law_number, g_law_number⟩ := fg_law_number X G c
  obtain ⟨fd_law_gcd, F_law_gcd, g_law_gcd⟩ := fg_law_gcd X G c
  obtain ⟨fd_law_ratio, F_law_ratio, g_law_ratio⟩ := fg_law_ratio X G c
  obtain ⟨fd_law_any_ratio, F_law_any_ratio, g_law_any_ratio⟩ := fg_law_any_ratio X G c
  obtain ⟨fd_law_drawn, F_law_drawn, g_law_drawn⟩ := fg_law_drawn X G c
  obtain ⟨fd_row_of, F_row_of, g_row_of⟩ := fg_row_of X G c
  obtain ⟨fd_is_whole, F_is_whole, g_is_whole⟩ := fg_is_whole X G c
  obtain ⟨fd_is_ratio, F_is_ratio, g_is_ratio⟩ := fg_is_ratio X G c
  obtain ⟨fd_HalfPlane_init, F_HalfPlane_init, g_HalfPlane_init⟩ := fg_HalfPlane_init c
  obtain ⟨fd_law_told, F_law_told, g_law_told⟩ := fg_law_told X G c
  obtain ⟨fd_law_odd, F_law_odd, g_law_odd⟩ := fg_law_odd X G c
  obtain ⟨fd_law_refused, F_law_refused, g_law_refused⟩ := fg_law_refused X G c
  obtain ⟨fd_negative, F_negative, g_negative⟩ := fg_negative X G c
  obtain ⟨fd_HalfPlane_opposite, F_HalfPlane_opposite, g_HalfPlane_opposite⟩ := fg_HalfPlane_opposite c
  obtain ⟨fd_HalfPlane_eq, F_HalfPlane_eq, g_HalfPlane_eq⟩ := fg_HalfPlane_eq c
  obtain ⟨fd_lowest, F_lowest, g_lowest⟩ := fg_lowest X G c
  obtain ⟨fd_minus, F_minus, g_minus⟩ := fg_minus X G c
  obtain ⟨fd_plus, F_plus, g_plus⟩ := fg_plus X G c
  obtain ⟨fd_times, F_times, g_times⟩ := fg_times X G c
  obtain ⟨fd_HalfPlane_excess_at, F_HalfPlane_excess_at, g_HalfPlane_excess_at⟩ := fg_HalfPlane_excess_at c
  obtain ⟨fd_HalfPlane_closed, F_HalfPlane_closed, g_HalfPlane_closed⟩ := fg_HalfPlane_closed c
  obtain ⟨fd_law_is_truth, F_law_is_truth, g_law_is_truth⟩ := fg_law_is_truth X G c
  obtain ⟨fd_law_row, F_law_row, g_law_row⟩ := fg_law_row X G c
  obtain ⟨fd_HalfPlane_reach, F_HalfPlane_reach, g_HalfPlane_reach⟩ := fg_HalfPlane_reach c
  obtain ⟨fd_law_reach, F_law_reach, g_law_reach⟩ := fg_law_reach X G c
  obtain ⟨fd_law_is_whole, F_law_is_whole, g_law_is_whole⟩ := fg_law_is_whole X G c
  obtain ⟨fd_law_is_ratio, F_law_is_ratio, g_law_is_ratio⟩ := fg_law_is_ratio X G c
  obtain ⟨fd_law_fits, F_law_fits, g_law_fits⟩ := fg_law_fits X G c
  obtain ⟨fd_law_less, F_law_less, g_law_less⟩ := fg_law_less X G c
  obtain ⟨fd_law_plus, F_law_plus, g_law_plus⟩ := fg_law_plus X G c
  obtain ⟨fd_law_times, F_law_times, g_law_times⟩ := fg_law_times X G c
  obtain ⟨fd_law_excess, F_law_excess, g_law_excess⟩ := fg_law_excess X G c
  obtain ⟨fd_HalfPlane_holds_cargo, F_HalfPlane_holds_cargo, g_HalfPlane_holds_cargo⟩ := fg_HalfPlane_holds_cargo c
  obtain ⟨fd_law_is_in, F_law_is_in, g_law_is_in⟩ := fg_law_is_in X G c
  obtain ⟨fd_law_is_told, F_law_is_told, g_law_is_told⟩ := fg_law_is_told X G c
  obtain ⟨fd_law_points, F_law_points, g_law_points⟩ := fg_law_points X G c
  obtain ⟨fd_HalfPlane_is_same, F_HalfPlane_is_same, g_HalfPlane_is_same⟩ := fg_HalfPlane_is_same c
  obtain ⟨fd_law_same_points, F_law_same_points, g_law_same_points⟩ := fg_law_same_points X G c
  obtain ⟨fd_law_compared, F_law_compared, g_law_compared⟩ := fg_law_compared X G c
  obtain ⟨fd_law, F_law, g_law⟩ := fg_law X G c
  have e := hfa.symm.trans g_law.m
  cases e
  refine ⟨fd_law, fun s v => FunD.bindsA F_law (ps := ["_law_script"]) (fun _ _ _ _ _ _ us hl => match us, hl with | [_], _ => rfl) s [v] rfl, fun base XB GB => ?_⟩
  have g0 := gm_ok (w := w) X G c ce XB GB
  obtain ⟨e0, ce⟩ := bAnd ce
  obtain ⟨e1, ce⟩ := bAnd ce
  obtain ⟨e2, ce⟩ := bAnd ce
  obtain ⟨e3, ce⟩ := bAnd ce
  obtain ⟨e4, ce⟩ := bAnd ce
  obtain ⟨e5, ce⟩ := bAnd ce
  obtain ⟨e6, ce⟩ := bAnd ce
  obtain ⟨e7, ce⟩ := bAnd ce
  obtain ⟨e8, ce⟩ := bAnd ce
  obtain ⟨e9, ce⟩ := bAnd ce
  obtain ⟨e10, ce⟩ := bAnd ce
  obtain ⟨e11, ce⟩ := bAnd ce
  obtain ⟨e12, ce⟩ := bAnd ce
  obtain ⟨e13, ce⟩ := bAnd ce
  obtain ⟨e14, ce⟩ := bAnd ce
  obtain ⟨e15, ce⟩ := bAnd ce
  obtain ⟨e16, ce⟩ := bAnd ce
  obtain ⟨e17, ce⟩ := bAnd ce
  obtain ⟨e18, ce⟩ := bAnd ce
  obtain ⟨e19, ce⟩ := bAnd ce
  obtain ⟨e20, ce⟩ := bAnd ce
  obtain ⟨e21, ce⟩ := bAnd ce
  obtain ⟨e22, ce⟩ := bAnd ce
  obtain ⟨e23, ce⟩ := bAnd ce
  obtain ⟨e24, ce⟩ := bAnd ce
  obtain ⟨e25, ce⟩ := bAnd ce
  obtain ⟨e26, ce⟩ := bAnd ce
  obtain ⟨e27, ce⟩ := bAnd ce
  obtain ⟨e28, ce⟩ := bAnd ce
  obtain ⟨e29, ce⟩ := bAnd ce
  have hn : noL K = true := e29
  have cH : clsOB K (He.ga K "HalfPlane") = true := of_decide_eq_true e12
  have f_p : PySem.W.findIn K (.ref (He.ga K "HalfPlane")) "p" = some none := of_decide_eq_true e13
  have f_q : PySem.W.findIn K (.ref (He.ga K "HalfPlane")) "q" = some none := of_decide_eq_true e14
  have f_r : PySem.W.findIn K (.ref (He.ga K "HalfPlane")) "r" = some none := of_decide_eq_true e15
  have f_strict : PySem.W.findIn K (.ref (He.ga K "HalfPlane")) "strict" = some none := of_decide_eq_true e16
  have f_row : PySem.W.findIn K (.ref (He.ga K "HalfPlane")) "row" = some none := of_decide_eq_true e17
  have s147_0 : subX K (He.ga K "BadHalf") (He.ga K "ShipError") = some true := of_decide_eq_true e18
  have s147_147 : subX K (He.ga K "BadHalf") (He.ga K "BadHalf") = some true := of_decide_eq_true e19
  have x147 : xfB K (He.ga K "BadHalf") = true := of_decide_eq_true e20
  have y147_what : PySem.W.findIn K (.ref (He.ga K "BadHalf")) "what" = some none := of_decide_eq_true e21
  have iH : isiX K (.inr (He.ga K "HalfPlane")) (He.ga K "HalfPlane") = some true := of_decide_eq_true e22
  have iT : isiX K (.inl "tuple") (He.ga K "HalfPlane") = some false := of_decide_eq_true e23
  have iI : isiX K (.inl "int") (He.ga K "HalfPlane") = some false := of_decide_eq_true e24
  have nH : nfX K (.inr (He.ga K "HalfPlane")) (He.ga K "HalfPlane") = true := of_decide_eq_true e25
  have nT : nfX K (.inl "tuple") (He.ga K "HalfPlane") = true := of_decide_eq_true e26
  have nI : nfX K (.inl "int") (He.ga K "HalfPlane") = true := of_decide_eq_true e27
  have nN : nfX K (.inl "!=") (He.ga K "HalfPlane") = true := of_decide_eq_true e28
  have e_mk_HalfPlane_init := e4
  have o_law_hand := fnDD (sp := sp_law_hand) (n := 1) (GM.tb g0 (T' := t_law_hand) rfl rfl ⟨rfl, rfl⟩) F_law_hand sc_law_hand rfl rfl rfl ck_law_hand pure_law_hand
  have g1 := g0.step (lv' := 3) (by decide) (g := 20) rfl (g_law_hand.glob o_law_hand) (fun np ks pat h => by have h : kwc0 20 np ks = some pat := h; rcases kw_none h with ⟨e, rfl, rfl, rfl⟩ <;> first | (exact absurd e (by decide)))
  have o_law_mix := fnDD (sp := sp_mix) (n := 2) (GM.tb g1 (T' := t_law_mix) rfl rfl ⟨rfl, rfl⟩) F_law_mix sc_law_mix rfl rfl rfl ck_law_mix pure_law_mix
  have g2 := g1.step (lv' := 4) (by decide) (g := 19) rfl (g_law_mix.glob o_law_mix) (fun np ks pat h => by have h : kwc0 19 np ks = some pat := h; rcases kw_none h with ⟨e, rfl, rfl, rfl⟩ <;> first | (exact absurd e (by decide)))
  have o_law_draw := fnDD (sp := sp_law_draw) (n := 2) (GM.tb g2 (T' := t_law_draw) rfl rfl ⟨rfl, rfl⟩) F_law_draw sc_law_draw rfl rfl rfl ck_law_draw (pure_law_draw rfl)
  have g3 := g2.step (lv' := 5) (by decide) (g := 21) rfl (g_law_draw.glob o_law_draw) (fun np ks pat h => by have h : kwc0 21 np ks = some pat := h; rcases kw_none h with ⟨e, rfl, rfl, rfl⟩ <;> first | (exact absurd e (by decide)))
  have o_law_pick := fnDD (sp := (VL.LSp (cl17 K) VK.vsp_pick)) (n := 2) (GM.tb g3 (T' := t_law_pick) rfl rfl ⟨rfl, rfl⟩) F_law_pick sc_law_pick rfl rfl rfl ck_law_pick (by refine VL.vFn (cl := cl17 K) ?_ rfl VK.v_pick; exact (VL.fns_rel (VL.all_cons VL.gk_draw VL.all_nil)))
  have g4 := g3.step (lv' := 6) (by decide) (g := 49) rfl (g_law_pick.glob o_law_pick) (fun np ks pat h => by have h : kwc0 49 np ks = some pat := h; rcases kw_none h with ⟨e, rfl, rfl, rfl⟩ <;> first | (exact absurd e (by decide)))
  have o_law_number := fnDD (sp := (VL.LSp (cl17 K) VK.vsp_num)) (n := 1) (GM.tb g4 (T' := t_law_number) rfl rfl ⟨rfl, rfl⟩) F_law_number sc_law_number rfl rfl rfl ck_law_number (by refine VL.vFn (cl := cl17 K) ?_ rfl VK.v_num; exact (VL.fns_rel (VL.all_cons VL.gk_draw (VL.all_cons VL.gk_own VL.all_nil))))
  have g5 := g4.step (lv' := 7) (by decide) (g := 152) rfl (g_law_number.glob o_law_number) (fun np ks pat h => by have h : kwc0 152 np ks = some pat := h; rcases kw_none h with ⟨e, rfl, rfl, rfl⟩ <;> first | (exact absurd e (by decide)))
  have o_law_gcd := fnDD (sp := (VL.LSp (cl17 K) VK.vsp_gcd17)) (n := 2) (GM.tb g5 (T' := t_law_gcd) rfl rfl ⟨rfl, rfl⟩) F_law_gcd sc_law_gcd rfl rfl rfl ck_law_gcd (by refine VL.vFn (cl := cl17 K) ?_ rfl VK.v_gcd17; exact (VL.fns_rel VL.all_nil))
  have g6 := g5.step (lv' := 8) (by decide) (g := 22) rfl (g_law_gcd.glob o_law_gcd) (fun np ks pat h => by have h : kwc0 22 np ks = some pat := h; rcases kw_none h with ⟨e, rfl, rfl, rfl⟩ <;> first | (exact absurd e (by decide)))
  have o_law_ratio := fnDD (sp := (VL.LSp (cl17 K) VK.vsp_rat)) (n := 2) (GM.tb g6 (T' := t_law_ratio) rfl rfl ⟨rfl, rfl⟩) F_law_ratio sc_law_ratio rfl rfl rfl ck_law_ratio (by refine VL.vFn (cl := cl17 K) ?_ rfl VK.v_rat; exact (VL.fns_rel (VL.all_cons VL.gk_own VL.all_nil)))
  have g7 := g6.step (lv' := 9) (by decide) (g := 23) rfl (g_law_ratio.glob o_law_ratio) (fun np ks pat h => by have h : kwc0 23 np ks = some pat := h; rcases kw_none h with ⟨e, rfl, rfl, rfl⟩ <;> first | (exact absurd e (by decide)))
  have o_law_any_ratio := fnDD (sp := (VL.LSp (cl17 K) VK.vsp_any)) (n := 1) (GM.tb g7 (T' := t_law_any_ratio) rfl rfl ⟨rfl, rfl⟩) F_law_any_ratio sc_law_any_ratio rfl rfl rfl ck_law_any_ratio (by refine VL.vFn (cl := cl17 K) ?_ rfl VK.v_any; exact (VL.fns_rel (VL.all_cons VL.gk_draw (VL.all_cons VL.gk_own (VL.all_cons VL.gk_own VL.all_nil)))))
  have g8 := g7.step (lv' := 10) (by decide) (g := 153) rfl (g_law_any_ratio.glob o_law_any_ratio) (fun np ks pat h => by have h : kwc0 153 np ks = some pat := h; rcases kw_none h with ⟨e, rfl, rfl, rfl⟩ <;> first | (exact absurd e (by decide)))
  have o_law_drawn := fnDD (sp := (VL.LSp (cl17 K) VK.vsp_drawn)) (n := 1) (GM.tb g8 (T' := t_law_drawn) rfl rfl ⟨rfl, rfl⟩) F_law_drawn sc_law_drawn rfl rfl rfl ck_law_drawn (by refine VL.vFn (cl := cl17 K) ?_ rfl VK.v_drawn; exact (VL.fns_rel (VL.all_cons VL.gk_draw (VL.all_cons VL.gk_own VL.all_nil))))
  have g9 := g8.step (lv' := 11) (by decide) (g := 157) rfl (g_law_drawn.glob o_law_drawn) (fun np ks pat h => by have h : kwc0 157 np ks = some pat := h; rcases kw_none h with ⟨e, rfl, rfl, rfl⟩ <;> first | (exact absurd e (by decide)))
  have o_row_of := fnDD (sp := (VL.LSp (cl17 K) VK.vsp_row)) (n := 3) (GM.tb g9 (T' := t_row_of) rfl rfl ⟨rfl, rfl⟩) F_row_of sc_row_of rfl rfl rfl ck_row_of (by refine VL.vFn (cl := cl17 K) ?_ rfl VK.v_rowof; exact (VL.fns_rel VL.all_nil))
  have g10 := g9.step (lv' := 12) (by decide) (g := 149) rfl (g_row_of.glob o_row_of) (fun np ks pat h => by have h : kwc0 149 np ks = some pat := h; rcases kw_none h with ⟨e, rfl, rfl, rfl⟩ <;> first | (exact absurd e (by decide)))
  have o_is_whole := fnDD (sp := sp_is_whole) (n := 3) (GM.tb g10 (T' := t_is_whole) rfl rfl ⟨rfl, rfl⟩) F_is_whole sc_is_whole rfl rfl rfl ck_is_whole pure_is_whole
  have g11 := g10.step (lv' := 13) (by decide) (g := 4) rfl (g_is_whole.glob o_is_whole) (fun np ks pat h => by have h : kwc0 4 np ks = some pat := h; rcases kw_none h with ⟨e, rfl, rfl, rfl⟩ <;> first | (exact absurd e (by decide)))
  have o_is_ratio := fnDD (sp := sp_is_ratio) (n := 1) (GM.tb g11 (T' := t_is_ratio) rfl rfl ⟨rfl, rfl⟩) F_is_ratio sc_is_ratio rfl rfl rfl ck_is_ratio (pure_is_ratio rfl)
  have g12 := g11.step (lv' := 14) (by decide) (g := 5) rfl (g_is_ratio.glob o_is_ratio) (fun np ks pat h => by have h : kwc0 5 np ks = some pat := h; rcases kw_none h with ⟨e, rfl, rfl, rfl⟩ <;> first | (exact absurd e (by decide)))
  have o_HalfPlane_init := fnDD (sp := (VL.LSi (cl17 K) 148 VK.vsp_half)) (n := 5) (GM.tb g12 (T' := t_HalfPlane_init) rfl rfl ⟨rfl, rfl⟩) F_HalfPlane_init sc_HalfPlane_init rfl rfl rfl ck_HalfPlane_init (by refine VL.vIni (cl := cl17 K) (N := 7) ?_ rfl (by decide) VK.v_half; exact (VL.TbOk.rel ⟨(VL.all_cons VL.gk_isratio (VL.all_cons (VL.gk_err rfl) (VL.all_cons VL.gk_own VL.all_nil))), (VL.all_cons ⟨cH, f_p⟩ (VL.all_cons ⟨cH, f_q⟩ (VL.all_cons ⟨cH, f_r⟩ (VL.all_cons ⟨cH, f_strict⟩ (VL.all_cons ⟨cH, f_row⟩ VL.all_nil))))), VL.all_nil, VL.all_nil, VL.all_nil, VL.all_nil, VL.all_nil, VL.all_nil⟩))
  have g13 := g12.stepC (lv' := 16) (by decide) (g := 148) (x := "HalfPlane") (C := He.ga K "HalfPlane") (i := some (4, (VL.LSi (cl17 K) 148 VK.vsp_half), [(.bl false)])) rfl rfl ⟨He.glo_ok X G (c.fact 38 (f := .glo "HalfPlane") rfl), .inl ⟨15, _, _, _, by decide, mkB_ok e4, o_HalfPlane_init, rfl, g_HalfPlane_init⟩⟩ (fun np ks pat h => by have h : kwc0 148 np ks = some pat := h; rcases kw_none h with ⟨e, rfl, rfl, rfl⟩ <;> first | (exact absurd e (by decide)) | exact kok_0 F_HalfPlane_init (mkB_ok e_mk_HalfPlane_init) o_HalfPlane_init)
  have o_law_told := fnDD (sp := (VL.LSp (cl17 K) VK.vsp_told)) (n := 1) (GM.tb g13 (T' := t_law_told) rfl rfl ⟨rfl, rfl⟩) F_law_told sc_law_told rfl rfl rfl ck_law_told (by refine VL.vFn (cl := cl17 K) ?_ rfl VK.v_told; exact (VL.TbOk.rel ⟨(VL.all_cons (VL.gk_cls rfl) (VL.all_cons (VL.gk_err rfl) (VL.all_cons (VK.gk_clad rfl) VL.all_nil))), VL.all_nil, (VL.all_cons s147_0 (VL.all_cons s147_147 VL.all_nil)), (VL.all_cons ⟨x147, y147_what⟩ VL.all_nil), VL.all_nil, VL.all_nil, VL.all_nil, VL.all_nil⟩))
  have g14 := g13.step (lv' := 17) (by decide) (g := 65) rfl (g_law_told.glob o_law_told) (fun np ks pat h => by have h : kwc0 65 np ks = some pat := h; rcases kw_none h with ⟨e, rfl, rfl, rfl⟩ <;> first | (exact absurd e (by decide)))
  have o_law_odd := fnDD (sp := (VL.LSp (cl17 K) VK.vsp_odd)) (n := 2) (GM.tb g14 (T' := t_law_odd) rfl rfl ⟨rfl, rfl⟩) F_law_odd sc_law_odd rfl rfl rfl ck_law_odd (by refine VL.vFn (cl := cl17 K) ?_ rfl VK.v_odd; exact (VL.fns_rel (VL.all_cons VL.gk_own VL.all_nil)))
  have g15 := g14.step (lv' := 18) (by decide) (g := 158) rfl (g_law_odd.glob o_law_odd) (fun np ks pat h => by have h : kwc0 158 np ks = some pat := h; rcases kw_none h with ⟨e, rfl, rfl, rfl⟩ <;> first | (exact absurd e (by decide)))
  have o_law_refused := fnDD (sp := (VL.LSp (cl17 K) VK.vsp_refused)) (n := 2) (GM.tb g15 (T' := t_law_refused) rfl rfl ⟨rfl, rfl⟩) F_law_refused sc_law_refused rfl rfl rfl ck_law_refused (by refine VL.vFn (cl := cl17 K) ?_ rfl VK.v_refused; exact (VL.fns_rel (VL.all_cons VL.gk_draw (VL.all_cons VL.gk_own (VL.all_cons VL.gk_own VL.all_nil)))))
  have g16 := g15.step (lv' := 19) (by decide) (g := 31) rfl (g_law_refused.glob o_law_refused) (fun np ks pat h => by have h : kwc0 31 np ks = some pat := h; rcases kw_none h with ⟨e, rfl, rfl, rfl⟩ <;> first | (exact absurd e (by decide)))
  have o_negative := fnDD (sp := (VL.LSp (cl17 K) VK.vsp_neg)) (n := 1) (GM.tb g16 (T' := t_negative) rfl rfl ⟨rfl, rfl⟩) F_negative sc_negative rfl rfl rfl ck_negative (by refine VL.vFn (cl := cl17 K) ?_ rfl VK.v_neg; exact (VL.fns_rel VL.all_nil))
  have g17 := g16.step (lv' := 20) (by decide) (g := 12) rfl (g_negative.glob o_negative) (fun np ks pat h => by have h : kwc0 12 np ks = some pat := h; rcases kw_none h with ⟨e, rfl, rfl, rfl⟩ <;> first | (exact absurd e (by decide)))
  have o_HalfPlane_opposite := fnDD (sp := (VL.LSp (cl17 K) VK.vsp_opp)) (n := 1) (GM.tb g17 (T' := t_HalfPlane_opposite) rfl rfl ⟨rfl, rfl⟩) F_HalfPlane_opposite sc_HalfPlane_opposite rfl rfl rfl ck_HalfPlane_opposite (by refine VL.vFn (cl := cl17 K) ?_ rfl VK.v_opp; exact (VL.TbOk.rel ⟨(VL.all_cons VL.gk_own (VL.all_cons (VK.gk_clad rfl) VL.all_nil)), (VL.all_cons ⟨cH, f_p⟩ (VL.all_cons ⟨cH, f_q⟩ (VL.all_cons ⟨cH, f_r⟩ (VL.all_cons ⟨cH, f_strict⟩ (VL.all_cons ⟨cH, f_row⟩ VL.all_nil))))), VL.all_nil, VL.all_nil, VL.all_nil, VL.all_nil, VL.all_nil, VL.all_nil⟩))
  have g18 := g17.stepM (lv' := 22) (by decide) (g := 148) (C := He.ga K "HalfPlane") rfl (m := "opposite") (n := 0) (sp := (VL.LSp (cl17 K) VK.vsp_opp)) (dfl := []) ⟨21, _, _, _, by decide, clsOB_ok e3, metB_ok e5, o_HalfPlane_opposite, rfl, g_HalfPlane_opposite⟩
  have o_HalfPlane_eq := fnDD (sp := (VL.LSp (cl17 K) VK.vsp_heq)) (n := 2) (GM.tb g18 (T' := t_HalfPlane_eq) rfl rfl ⟨rfl, rfl⟩) F_HalfPlane_eq sc_HalfPlane_eq rfl rfl rfl ck_HalfPlane_eq (by refine VL.vFn (cl := cl17 K) ?_ rfl VK.v_heq; exact (VL.TbOk.rel ⟨(VL.all_cons (VK.gk_clad rfl) VL.all_nil), (VL.all_cons ⟨cH, f_p⟩ (VL.all_cons ⟨cH, f_q⟩ (VL.all_cons ⟨cH, f_r⟩ (VL.all_cons ⟨cH, f_strict⟩ (VL.all_cons ⟨cH, f_row⟩ VL.all_nil))))), VL.all_nil, VL.all_nil, VL.all_nil, VL.all_nil, (VL.all_cons iT (VL.all_cons iI (VL.all_cons iH VL.all_nil))), VL.all_nil⟩))
  have g19 := g18.stepM (lv' := 24) (by decide) (g := 148) (C := He.ga K "HalfPlane") rfl (m := "__eq__") (n := 1) (sp := (VL.LSp (cl17 K) VK.vsp_heq)) (dfl := []) ⟨23, _, _, _, by decide, clsOB_ok e3, metB_ok e6, o_HalfPlane_eq, rfl, g_HalfPlane_eq⟩
  have o_lowest := fnDD (sp := sp_lowest) (n := 2) (GM.tb g19 (T' := t_lowest) rfl rfl ⟨rfl, rfl⟩) F_lowest sc_lowest rfl rfl rfl ck_lowest pure_lowest
  have g20 := g19.step (lv' := 25) (by decide) (g := 7) rfl (g_lowest.glob o_lowest) (fun np ks pat h => by have h : kwc0 7 np ks = some pat := h; rcases kw_none h with ⟨e, rfl, rfl, rfl⟩ <;> first | (exact absurd e (by decide)))
  have o_minus := fnDD (sp := sp_minus) (n := 2) (GM.tb g20 (T' := t_minus) rfl rfl ⟨rfl, rfl⟩) F_minus sc_minus rfl rfl rfl ck_minus (pure_minus rfl)
  have g21 := g20.step (lv' := 26) (by decide) (g := 9) rfl (g_minus.glob o_minus) (fun np ks pat h => by have h : kwc0 9 np ks = some pat := h; rcases kw_none h with ⟨e, rfl, rfl, rfl⟩ <;> first | (exact absurd e (by decide)))
  have o_plus := fnDD (sp := sp_plus) (n := 2) (GM.tb g21 (T' := t_plus) rfl rfl ⟨rfl, rfl⟩) F_plus sc_plus rfl rfl rfl ck_plus (pure_plus rfl)
  have g22 := g21.step (lv' := 27) (by decide) (g := 8) rfl (g_plus.glob o_plus) (fun np ks pat h => by have h : kwc0 8 np ks = some pat := h; rcases kw_none h with ⟨e, rfl, rfl, rfl⟩ <;> first | (exact absurd e (by decide)))
  have o_times := fnDD (sp := sp_times) (n := 2) (GM.tb g22 (T' := t_times) rfl rfl ⟨rfl, rfl⟩) F_times sc_times rfl rfl rfl ck_times (pure_times rfl)
  have g23 := g22.step (lv' := 28) (by decide) (g := 10) rfl (g_times.glob o_times) (fun np ks pat h => by have h : kwc0 10 np ks = some pat := h; rcases kw_none h with ⟨e, rfl, rfl, rfl⟩ <;> first | (exact absurd e (by decide)))
  have o_HalfPlane_excess_at := fnDD (sp := (VL.LSp (cl17 K) VK.vsp_exc)) (n := 2) (GM.tb g23 (T' := t_HalfPlane_excess_at) rfl rfl ⟨rfl, rfl⟩) F_HalfPlane_excess_at sc_HalfPlane_excess_at rfl rfl rfl ck_HalfPlane_excess_at (by refine VL.vFn (cl := cl17 K) ?_ rfl VK.v_exc; exact (VL.TbOk.rel ⟨(VL.all_cons VL.gk_plus (VL.all_cons VL.gk_minus (VL.all_cons VL.gk_times VL.all_nil))), (VL.all_cons ⟨cH, f_p⟩ (VL.all_cons ⟨cH, f_q⟩ (VL.all_cons ⟨cH, f_r⟩ (VL.all_cons ⟨cH, f_strict⟩ (VL.all_cons ⟨cH, f_row⟩ VL.all_nil))))), VL.all_nil, VL.all_nil, VL.all_nil, VL.all_nil, VL.all_nil, VL.all_nil⟩))
  have g24 := g23.stepM (lv' := 30) (by decide) (g := 148) (C := He.ga K "HalfPlane") rfl (m := "excess_at") (n := 1) (sp := (VL.LSp (cl17 K) VK.vsp_exc)) (dfl := []) ⟨29, _, _, _, by decide, clsOB_ok e3, metB_ok e7, o_HalfPlane_excess_at, rfl, g_HalfPlane_excess_at⟩
  have o_HalfPlane_closed := fnDD (sp := (VL.LSp (cl17 K) VK.vsp_clo)) (n := 1) (GM.tb g24 (T' := t_HalfPlane_closed) rfl rfl ⟨rfl, rfl⟩) F_HalfPlane_closed sc_HalfPlane_closed rfl rfl rfl ck_HalfPlane_closed (by refine VL.vFn (cl := cl17 K) ?_ rfl VK.v_clo; exact (VL.TbOk.rel ⟨(VL.all_cons (VK.gk_clad rfl) VL.all_nil), (VL.all_cons ⟨cH, f_p⟩ (VL.all_cons ⟨cH, f_q⟩ (VL.all_cons ⟨cH, f_r⟩ (VL.all_cons ⟨cH, f_strict⟩ (VL.all_cons ⟨cH, f_row⟩ VL.all_nil))))), VL.all_nil, VL.all_nil, VL.all_nil, VL.all_nil, VL.all_nil, VL.all_nil⟩))
  have g25 := g24.stepM (lv' := 32) (by decide) (g := 148) (C := He.ga K "HalfPlane") rfl (m := "closed") (n := 0) (sp := (VL.LSp (cl17 K) VK.vsp_clo)) (dfl := []) ⟨31, _, _, _, by decide, clsOB_ok e3, metB_ok e8, o_HalfPlane_closed, rfl, g_HalfPlane_closed⟩
  have o_law_is_truth := fnDD (sp := (VL.LSp (cl17 K) VK.vsp_truth)) (n := 2) (GM.tb g25 (T' := t_law_is_truth) rfl rfl ⟨rfl, rfl⟩) F_law_is_truth sc_law_is_truth rfl rfl rfl ck_law_is_truth (by refine VL.vFn (cl := cl17 K) ?_ rfl VK.v_truth; exact (VL.fns_rel VL.all_nil))
  have g26 := g25.step (lv' := 33) (by decide) (g := 156) rfl (g_law_is_truth.glob o_law_is_truth) (fun np ks pat h => by have h : kwc0 156 np ks = some pat := h; rcases kw_none h with ⟨e, rfl, rfl, rfl⟩ <;> first | (exact absurd e (by decide)))
  have o_law_row := fnDD (sp := (VL.LSp (cl17 K) VK.vsp_rowl)) (n := 1) (GM.tb g26 (T' := t_law_row) rfl rfl ⟨rfl, rfl⟩) F_law_row sc_law_row rfl rfl rfl ck_law_row (by refine VL.vFn (cl := cl17 K) ?_ rfl VK.v_rowl; exact (VL.fns_rel (VL.all_cons VL.gk_own VL.all_nil)))
  have g27 := g26.step (lv' := 34) (by decide) (g := 159) rfl (g_law_row.glob o_law_row) (fun np ks pat h => by have h : kwc0 159 np ks = some pat := h; rcases kw_none h with ⟨e, rfl, rfl, rfl⟩ <;> first | (exact absurd e (by decide)))
  have o_HalfPlane_reach := fnDD (sp := (VL.LSp (cl17 K) VK.vsp_rea)) (n := 1) (GM.tb g27 (T' := t_HalfPlane_reach) rfl rfl ⟨rfl, rfl⟩) F_HalfPlane_reach sc_HalfPlane_reach rfl rfl rfl ck_HalfPlane_reach (by refine VL.vFn (cl := cl17 K) ?_ rfl VK.v_rea; exact (VL.TbOk.rel ⟨VL.all_nil, (VL.all_cons ⟨cH, f_p⟩ (VL.all_cons ⟨cH, f_q⟩ (VL.all_cons ⟨cH, f_r⟩ (VL.all_cons ⟨cH, f_strict⟩ (VL.all_cons ⟨cH, f_row⟩ VL.all_nil))))), VL.all_nil, VL.all_nil, VL.all_nil, VL.all_nil, VL.all_nil, VL.all_nil⟩))
  have g28 := g27.stepP (lv' := 36) (by decide) (g := 148) (C := He.ga K "HalfPlane") rfl (f := "reach") (sp := (VL.LSp (cl17 K) VK.vsp_rea)) ⟨35, _, _, _, _, by decide, clsOB_ok e3, prpB_ok e9, o_HalfPlane_reach, g_HalfPlane_reach⟩
  have o_law_reach := fnDD (sp := (VL.LSp (cl17 K) VK.vsp_real)) (n := 1) (GM.tb g28 (T' := t_law_reach) rfl rfl ⟨rfl, rfl⟩) F_law_reach sc_law_reach rfl rfl rfl ck_law_reach (by refine VL.vFn (cl := cl17 K) ?_ rfl VK.v_real; exact (VL.fns_rel VL.all_nil))
  have g29 := g28.step (lv' := 37) (by decide) (g := 160) rfl (g_law_reach.glob o_law_reach) (fun np ks pat h => by have h : kwc0 160 np ks = some pat := h; rcases kw_none h with ⟨e, rfl, rfl, rfl⟩ <;> first | (exact absurd e (by decide)))
  have o_law_is_whole := fnDD (sp := (VL.LSp (cl17 K) VK.vsp_whl)) (n := 1) (GM.tb g29 (T' := t_law_is_whole) rfl rfl ⟨rfl, rfl⟩) F_law_is_whole sc_law_is_whole rfl rfl rfl ck_law_is_whole (by refine VL.vFn (cl := cl17 K) ?_ rfl VK.v_whl; exact (VL.fns_rel VL.all_nil))
  have g30 := g29.step (lv' := 38) (by decide) (g := 151) rfl (g_law_is_whole.glob o_law_is_whole) (fun np ks pat h => by have h : kwc0 151 np ks = some pat := h; rcases kw_none h with ⟨e, rfl, rfl, rfl⟩ <;> first | (exact absurd e (by decide)))
  have o_law_is_ratio := fnDD (sp := (VL.LSp (cl17 K) VK.vsp_isr)) (n := 1) (GM.tb g30 (T' := t_law_is_ratio) rfl rfl ⟨rfl, rfl⟩) F_law_is_ratio sc_law_is_ratio rfl rfl rfl ck_law_is_ratio (by refine VL.vFn (cl := cl17 K) ?_ rfl VK.v_isr; exact (VL.fns_rel (VL.all_cons VL.gk_own (VL.all_cons VL.gk_own VL.all_nil))))
  have g31 := g30.step (lv' := 39) (by decide) (g := 30) rfl (g_law_is_ratio.glob o_law_is_ratio) (fun np ks pat h => by have h : kwc0 30 np ks = some pat := h; rcases kw_none h with ⟨e, rfl, rfl, rfl⟩ <;> first | (exact absurd e (by decide)))
  have o_law_fits := fnDD (sp := (VL.LSp (cl17 K) VK.vsp_fits)) (n := 2) (GM.tb g31 (T' := t_law_fits) rfl rfl ⟨rfl, rfl⟩) F_law_fits sc_law_fits rfl rfl rfl ck_law_fits (by refine VL.vFn (cl := cl17 K) ?_ rfl VK.v_fits; exact (VL.TbOk.rel ⟨(VL.all_cons VL.gk_own (VL.all_cons (VK.gk_clad rfl) (VL.all_cons VL.gk_own (VL.all_cons VL.gk_own (VL.all_cons VL.gk_own (VL.all_cons VL.gk_own VL.all_nil)))))), (VL.all_cons ⟨cH, f_p⟩ (VL.all_cons ⟨cH, f_q⟩ (VL.all_cons ⟨cH, f_r⟩ (VL.all_cons ⟨cH, f_strict⟩ (VL.all_cons ⟨cH, f_row⟩ VL.all_nil))))), VL.all_nil, VL.all_nil, VL.all_nil, (VL.all_cons (VK.pr_own rfl) VL.all_nil), VL.all_nil, VL.all_nil⟩))
  have g32 := g31.step (lv' := 40) (by decide) (g := 162) rfl (g_law_fits.glob o_law_fits) (fun np ks pat h => by have h : kwc0 162 np ks = some pat := h; rcases kw_none h with ⟨e, rfl, rfl, rfl⟩ <;> first | (exact absurd e (by decide)))
  have o_law_less := fnDD (sp := (VL.LSp (cl17 K) VK.vsp_less)) (n := 2) (GM.tb g32 (T' := t_law_less) rfl rfl ⟨rfl, rfl⟩) F_law_less sc_law_less rfl rfl rfl ck_law_less (by refine VL.vFn (cl := cl17 K) ?_ rfl VK.v_less17; exact (VL.fns_rel (VL.all_cons VL.gk_own VL.all_nil)))
  have g33 := g32.step (lv' := 41) (by decide) (g := 150) rfl (g_law_less.glob o_law_less) (fun np ks pat h => by have h : kwc0 150 np ks = some pat := h; rcases kw_none h with ⟨e, rfl, rfl, rfl⟩ <;> first | (exact absurd e (by decide)))
  have o_law_plus := fnDD (sp := (VL.LSp (cl17 K) VK.vsp_plus)) (n := 2) (GM.tb g33 (T' := t_law_plus) rfl rfl ⟨rfl, rfl⟩) F_law_plus sc_law_plus rfl rfl rfl ck_law_plus (by refine VL.vFn (cl := cl17 K) ?_ rfl VK.v_plus17; exact (VL.fns_rel (VL.all_cons VL.gk_own VL.all_nil)))
  have g34 := g33.step (lv' := 42) (by decide) (g := 24) rfl (g_law_plus.glob o_law_plus) (fun np ks pat h => by have h : kwc0 24 np ks = some pat := h; rcases kw_none h with ⟨e, rfl, rfl, rfl⟩ <;> first | (exact absurd e (by decide)))
  have o_law_times := fnDD (sp := (VL.LSp (cl17 K) VK.vsp_times)) (n := 2) (GM.tb g34 (T' := t_law_times) rfl rfl ⟨rfl, rfl⟩) F_law_times sc_law_times rfl rfl rfl ck_law_times (by refine VL.vFn (cl := cl17 K) ?_ rfl VK.v_times17; exact (VL.fns_rel (VL.all_cons VL.gk_own VL.all_nil)))
  have g35 := g34.step (lv' := 43) (by decide) (g := 26) rfl (g_law_times.glob o_law_times) (fun np ks pat h => by have h : kwc0 26 np ks = some pat := h; rcases kw_none h with ⟨e, rfl, rfl, rfl⟩ <;> first | (exact absurd e (by decide)))
  have o_law_excess := fnDD (sp := (VL.LSp (cl17 K) VK.vsp_excl)) (n := 2) (GM.tb g35 (T' := t_law_excess) rfl rfl ⟨rfl, rfl⟩) F_law_excess sc_law_excess rfl rfl rfl ck_law_excess (by refine VL.vFn (cl := cl17 K) ?_ rfl VK.v_excl; exact (VL.fns_rel (VL.all_cons VL.gk_own (VL.all_cons VL.gk_own (VL.all_cons VL.gk_own VL.all_nil)))))
  have g36 := g35.step (lv' := 44) (by decide) (g := 154) rfl (g_law_excess.glob o_law_excess) (fun np ks pat h => by have h : kwc0 154 np ks = some pat := h; rcases kw_none h with ⟨e, rfl, rfl, rfl⟩ <;> first | (exact absurd e (by decide)))
  have o_HalfPlane_holds_cargo := fnDD (sp := (VL.LSp (cl17 K) VK.vsp_hold)) (n := 2) (GM.tb g36 (T' := t_HalfPlane_holds_cargo) rfl rfl ⟨rfl, rfl⟩) F_HalfPlane_holds_cargo sc_HalfPlane_holds_cargo rfl rfl rfl ck_HalfPlane_holds_cargo (by refine VL.vFn (cl := cl17 K) ?_ rfl VK.v_hold; exact (VL.TbOk.rel ⟨VL.all_nil, (VL.all_cons ⟨cH, f_p⟩ (VL.all_cons ⟨cH, f_q⟩ (VL.all_cons ⟨cH, f_r⟩ (VL.all_cons ⟨cH, f_strict⟩ (VL.all_cons ⟨cH, f_row⟩ VL.all_nil))))), VL.all_nil, VL.all_nil, VL.all_nil, VL.all_nil, VL.all_nil, VL.all_nil⟩))
  have g37 := g36.stepM (lv' := 46) (by decide) (g := 148) (C := He.ga K "HalfPlane") rfl (m := "holds_cargo") (n := 1) (sp := (VL.LSp (cl17 K) VK.vsp_hold)) (dfl := []) ⟨45, _, _, _, by decide, clsOB_ok e3, metB_ok e10, o_HalfPlane_holds_cargo, rfl, g_HalfPlane_holds_cargo⟩
  have o_law_is_in := fnDD (sp := (VL.LSp (cl17 K) VK.vsp_isin)) (n := 2) (GM.tb g37 (T' := t_law_is_in) rfl rfl ⟨rfl, rfl⟩) F_law_is_in sc_law_is_in rfl rfl rfl ck_law_is_in (by refine VL.vFn (cl := cl17 K) ?_ rfl VK.v_isin; exact (VL.fns_rel (VL.all_cons VL.gk_own VL.all_nil)))
  have g38 := g37.step (lv' := 47) (by decide) (g := 155) rfl (g_law_is_in.glob o_law_is_in) (fun np ks pat h => by have h : kwc0 155 np ks = some pat := h; rcases kw_none h with ⟨e, rfl, rfl, rfl⟩ <;> first | (exact absurd e (by decide)))
  have o_law_is_told := fnDD (sp := (VL.LSp (cl17 K) VK.vsp_istold)) (n := 4) (GM.tb g38 (T' := t_law_is_told) rfl rfl ⟨rfl, rfl⟩) F_law_is_told sc_law_is_told rfl rfl rfl ck_law_is_told (by refine VL.vFn (cl := cl17 K) ?_ rfl VK.v_ist; exact (VL.TbOk.rel ⟨(VL.all_cons VL.gk_draw (VL.all_cons VL.gk_own (VL.all_cons (VK.gk_clad rfl) (VL.all_cons VL.gk_own (VL.all_cons VL.gk_own (VL.all_cons VL.gk_own (VL.all_cons VL.gk_own VL.all_nil))))))), (VL.all_cons ⟨cH, f_p⟩ (VL.all_cons ⟨cH, f_q⟩ (VL.all_cons ⟨cH, f_r⟩ (VL.all_cons ⟨cH, f_strict⟩ (VL.all_cons ⟨cH, f_row⟩ VL.all_nil))))), VL.all_nil, VL.all_nil, (VL.all_cons (VL.mt_own rfl) (VL.all_cons (VL.mt_own rfl) (VL.all_cons (VL.mt_own rfl) (VL.all_cons (VL.mt_own rfl) (VL.all_cons (VL.mt_own rfl) VL.all_nil))))), VL.all_nil, VL.all_nil, (VL.all_cons nH VL.all_nil)⟩))
  have g39 := g38.step (lv' := 48) (by decide) (g := 163) rfl (g_law_is_told.glob o_law_is_told) (fun np ks pat h => by have h : kwc0 163 np ks = some pat := h; rcases kw_none h with ⟨e, rfl, rfl, rfl⟩ <;> first | (exact absurd e (by decide)))
  have o_law_points := fnDD (sp := (VL.LSp (cl17 K) VK.vsp_pts)) (n := 2) (GM.tb g39 (T' := t_law_points) rfl rfl ⟨rfl, rfl⟩) F_law_points sc_law_points rfl rfl rfl ck_law_points (by refine VL.vFn (cl := cl17 K) ?_ rfl VK.v_pts; exact (VL.fns_rel (VL.all_cons VL.gk_own (VL.all_cons VL.gk_own (VL.all_cons VL.gk_own VL.all_nil)))))
  have g40 := g39.step (lv' := 49) (by decide) (g := 161) rfl (g_law_points.glob o_law_points) (fun np ks pat h => by have h : kwc0 161 np ks = some pat := h; rcases kw_none h with ⟨e, rfl, rfl, rfl⟩ <;> first | (exact absurd e (by decide)))
  have o_HalfPlane_is_same := fnDD (sp := (VL.LSp (cl17 K) VK.vsp_isame)) (n := 2) (GM.tb g40 (T' := t_HalfPlane_is_same) rfl rfl ⟨rfl, rfl⟩) F_HalfPlane_is_same sc_HalfPlane_is_same rfl rfl rfl ck_HalfPlane_is_same (by refine VL.vFn (cl := cl17 K) ?_ rfl VK.v_isame; exact (VL.TbOk.rel ⟨(VL.all_cons (VK.gk_clad rfl) VL.all_nil), (VL.all_cons ⟨cH, f_p⟩ (VL.all_cons ⟨cH, f_q⟩ (VL.all_cons ⟨cH, f_r⟩ (VL.all_cons ⟨cH, f_strict⟩ (VL.all_cons ⟨cH, f_row⟩ VL.all_nil))))), VL.all_nil, VL.all_nil, VL.all_nil, (VL.all_cons (VK.pr_own rfl) VL.all_nil), VL.all_nil, VL.all_nil⟩))
  have g41 := g40.stepM (lv' := 51) (by decide) (g := 148) (C := He.ga K "HalfPlane") rfl (m := "is_same") (n := 1) (sp := (VL.LSp (cl17 K) VK.vsp_isame)) (dfl := []) ⟨50, _, _, _, by decide, clsOB_ok e3, metB_ok e11, o_HalfPlane_is_same, rfl, g_HalfPlane_is_same⟩
  have o_law_same_points := fnDD (sp := (VL.LSp (cl17 K) VK.vsp_sml)) (n := 2) (GM.tb g41 (T' := t_law_same_points) rfl rfl ⟨rfl, rfl⟩) F_law_same_points sc_law_same_points rfl rfl rfl ck_law_same_points (by refine VL.vFn (cl := cl17 K) ?_ rfl VK.v_sml; exact (VL.fns_rel (VL.all_cons VL.gk_own (VL.all_cons VL.gk_own VL.all_nil))))
  have g42 := g41.step (lv' := 52) (by decide) (g := 164) rfl (g_law_same_points.glob o_law_same_points) (fun np ks pat h => by have h : kwc0 164 np ks = some pat := h; rcases kw_none h with ⟨e, rfl, rfl, rfl⟩ <;> first | (exact absurd e (by decide)))
  have o_law_compared := fnDD (sp := (VL.LSp (cl17 K) VK.vsp_comp)) (n := 4) (GM.tb g42 (T' := t_law_compared) rfl rfl ⟨rfl, rfl⟩) F_law_compared sc_law_compared rfl rfl rfl ck_law_compared (by refine VL.vFn (cl := cl17 K) ?_ rfl VK.v_comp; exact (VL.TbOk.rel ⟨(VL.all_cons VL.gk_draw (VL.all_cons VL.gk_own (VL.all_cons VL.gk_own (VL.all_cons VL.gk_own (VL.all_cons VL.gk_own (VL.all_cons (VK.gk_clad rfl) (VL.all_cons VL.gk_own (VL.all_cons VL.gk_own VL.all_nil)))))))), (VL.all_cons ⟨cH, f_p⟩ (VL.all_cons ⟨cH, f_q⟩ (VL.all_cons ⟨cH, f_r⟩ (VL.all_cons ⟨cH, f_strict⟩ (VL.all_cons ⟨cH, f_row⟩ VL.all_nil))))), VL.all_nil, VL.all_nil, (VL.all_cons (VL.mt_own rfl) (VL.all_cons (VL.mt_own rfl) VL.all_nil)), VL.all_nil, VL.all_nil, (VL.all_cons nH (VL.all_cons nT (VL.all_cons nI (VL.all_cons nN VL.all_nil))))⟩))
  have g43 := g42.step (lv' := 53) (by decide) (g := 165) rfl (g_law_compared.glob o_law_compared) (fun np ks pat h => by have h : kwc0 165 np ks = some pat := h; rcases kw_none h with ⟨e, rfl, rfl, rfl⟩ <;> first | (exact absurd e (by decide)))
  have o_law := fnDD (sp := spLawD) (n := 1) (GM.tb g43 (T' := t_law) rfl rfl ⟨rfl, rfl⟩) F_law sc_law rfl rfl rfl ck_law (by refine VK.pure_law17 (cl := cl17 K) ⟨rfl, ?_⟩; exact VK.rel17 (VL.TbOk.rel ⟨(VL.all_cons VL.gk_own (VL.all_cons VL.gk_own (VL.all_cons (VK.gk_clad rfl) (VL.all_cons VL.gk_own (VL.all_cons VL.gk_own (VL.all_cons VL.gk_own (VL.all_cons VL.gk_own (VL.all_cons VL.gk_own VL.all_nil)))))))), (VL.all_cons ⟨cH, f_p⟩ (VL.all_cons ⟨cH, f_q⟩ (VL.all_cons ⟨cH, f_r⟩ (VL.all_cons ⟨cH, f_strict⟩ (VL.all_cons ⟨cH, f_row⟩ VL.all_nil))))), VL.all_nil, VL.all_nil, VL.all_nil, VL.all_nil, VL.all_nil, VL.all_nil⟩) rfl)
  exact (o_law.imp (law_imp hn)).mono (by decide)
end LW
theorem PySem.Challenge.cw_dryholds_k17_half_planes_made_and_asked_holds : PySem.Challenge.rw_dryholds_k17_half_planes_made_and_asked.Holds := by
  exact LW.headL fun X G hfa c ce => LW.facts X G hfa c ce
