import PyProof.Rows.All
import Wide.All
import OpenK.AllK
import Wide.FinOn
import HandS.Words
import HandS.Small
import HandS.HeadHook4
import HandS.HeadWalk
import HandS.Head0
import HandS.Head1
import HandS.Head2
import HandS.ForMost
import HandS.ForExc
import HandS.ExcCtx
import HandS.HotCalls
import HandS.ExcIs
import HandS.IsInst
import HandS.Lambda
import HandS.EndTab
import HandS.TupAny
import HandS.Conv
import HandS.Wide
import HandS.Style
import KE.GoesEnum
import KE.KDictPairs
import HandS.ExcInit
import KE.KExcSuper
import KE.KSuper
import HandS.ExcOwn
import HandS.OwnEq
import HandS.GenList
import HandS.Iter
import PyProof.GenArm
import PyProof.GenComp
import HandS.AnyAll
import PyProof.TupleOfGen
import HandS.CallLocal
import HandS.Codes
import HandS.NoneIn
import HandS.Star
import HandS.ExcField
import HandS.FStr
import HandS.More
import KE.KExcIs
import HandS.Text
import KE.KUnpackStar
import HandS.Comp
import HandS.RaiseMore
import HandS.Deep
import PySem.Challenge.RW_stillcopy_k19_texts_refused
set_option Elab.async false
set_option linter.all false
set_option maxRecDepth 100000
set_option maxHeartbeats 2000000
namespace S02
open PySem PySem.Spec PyProof.Rows L2 LamX
def top (i : Nat) : Stmt := PySem.Challenge.pw_stillcopy_k19_texts_refused.main.body.getD i (.Pass ⟨0, 0, 0, 0⟩)
abbrev s_within : Stmt := top 18
abbrev s_check_hand : Stmt := top 21
abbrev s_is_deed : Stmt := top 22
abbrev s_check_deal : Stmt := top 23
abbrev s_check_deals : Stmt := top 27
abbrev s_read_number : Stmt := top 28
abbrev s_read_last : Stmt := top 29
abbrev s_read_deed : Stmt := top 30
abbrev s_read_row : Stmt := top 31
abbrev s_read_deals : Stmt := top 32
abbrev s_begun : Stmt := top 34
abbrev s_take : Stmt := top 35
abbrev s_alike : Stmt := top 36
abbrev s_class : Stmt := top 37
abbrev s_refused : Stmt := top 38
abbrev s_all : Stmt := top 39
abbrev s_store : Stmt := top 40
abbrev s_again : Stmt := top 41
abbrev s_seen : Stmt := top 42
abbrev s_tried : Stmt := top 43
abbrev s_deal : Stmt := top 44
abbrev s_whole : Stmt := top 45
abbrev s_deed : Stmt := top 46
abbrev s_drawn : Stmt := top 47
abbrev s_deals : Stmt := top 48
abbrev s_text : Stmt := top 49
abbrev s_spoilt : Stmt := top 50
abbrev s_wrong : Stmt := top 51
abbrev s_number : Stmt := top 52
abbrev s_part : Stmt := top 53
abbrev s_row : Stmt := top 54
abbrev s_fault : Stmt := top 55
abbrev s_due : Stmt := top 56
abbrev s_told : Stmt := top 57
abbrev s_law : Stmt := top 58
abbrev s_BadDeal___init__ : Stmt := inClass (top 2) 0
abbrev s_Behind___init__ : Stmt := inClass (top 9) 0
abbrev s_BadText___init__ : Stmt := inClass (top 12) 0
end S02

set_option Elab.async false
set_option linter.all false
set_option maxRecDepth 100000
set_option maxHeartbeats 2000000
/-! ### what the head tells beside names, as Boolean facts -/
namespace S02
open PySem PySem.Spec PyProof.Rows L2 LamX
section
variable {K : PySem.W.Frag}
def itsOf (K : PySem.W.Frag) (a : Addr) : Option (List Value) := match K.lookup a with
  | some ⟨.type c, _, .seq its _, _⟩ => (if c = "tuple" ∧ its.size ≤ 1000 then some its.toList else none)
  | _ => none
def prB (K : PySem.W.Frag) (v : Value) (p : Int × Int) : Bool := match v with
  | .ref a => (match itsOf K a with
    | some [.int i _, .int j _] => decide (i = p.1) && decide (j = p.2)
    | _ => false)
  | _ => false
def prsB (K : PySem.W.Frag) : List Value → List (Int × Int) → Bool
  | [], [] => true
  | v :: vs, p :: ps => prB K v p && prsB K vs ps
  | _, _ => false
def bdB (K : PySem.W.Frag) (b : Addr) (l : List (Int × Int)) : Bool := match itsOf K b with
  | some vs => prsB K vs l
  | none => false
def vA (K : PySem.W.Frag) (B : Addr) (x : Str) : Addr := match PySem.W.nsIn K B x with
  | some (some (.ref a)) => a
  | _ => 0
def isA (K : PySem.W.Frag) (B : Addr) (x : Str) (a : Addr) : Bool := decide (PySem.W.nsIn K B x = some (some (.ref a)))
abbrev gB (K : PySem.W.Frag) : Addr := He.ga K "BOUNDS"
abbrev gC (K : PySem.W.Frag) : Addr := He.ga K "ACTIONS"
abbrev gX (K : PySem.W.Frag) (c : Str) : Addr := He.ga K c
abbrev gI (K : PySem.W.Frag) (c : Str) : Addr := He.ma K (gX K c) "__init__"
def boundsB (K : PySem.W.Frag) (x : Str) (l : List (Int × Int)) : Bool := isA K (gB K) x (vA K (gB K) x) && bdB K (vA K (gB K) x) l
abbrev FnY1 : Type := Option (Str × Str × Arguments × FuncBody × Scope × Addr × List Str × Value × Addr)
def fnY1 (K : PySem.W.Frag) (c : Str) : FnY1 := match K.lookup (gI K c) with
  | some ⟨_, _, .func f, _⟩ => some (f.name, f.qualname, f.params, f.body, f.scope, f.globals, f.closure.map (·.1), f.defaults, f.builtins)
  | _ => none
def cellB (K : PySem.W.Frag) (cn : Str) (l : List (Str × Addr)) : Bool := match l with
  | [(_, c)] => (match K.lookup c with
    | some ⟨_, _, .cell (some (.ref D)), _⟩ => decide (D = gX K cn)
    | _ => false)
  | _ => false
def fileB (K : PySem.W.Frag) (c : Value) : Bool := match c with
  | .ref a => (match K.lookup a with
    | some ⟨_, _, .fields vs, _⟩ => (match (vs[2]? : Option Value) with
      | some (Value.str file _) => ("/claim/cut.py" : Str) == file
      | _ => false)
    | _ => false)
  | _ => false
def funB (K : PySem.W.Frag) (c q : Str) : Bool := match K.lookup (gI K c) with
  | some ⟨_, _, .func f, _⟩ => cellB K c f.closure && (PySem.W.codeIn K f.code q && fileB K f.code)
  | _ => false
def initB (K : PySem.W.Frag) (c q : Str) : Bool := funB K c q && (decide (PySem.W.findIn K (.ref (gX K c)) "__init__" = some (some (.ref (gI K c)))) && decide (PySem.W.typeIn K (.ref (gI K c)) = some (.type "function")))
def slB (l : List (Option Value)) : Bool := match l with
  | [_, _, _, _, some (Value.builtin n), _] => decide (n = "ValueError.__new__")
  | _ => false
def mroB (C : Addr) (l : List Value) : Bool := match l with
  | .ref D :: bm => decide (D = C) && PySem.HandSPX.refsVE bm
  | _ => false
def cdB (C : Addr) (cd : ClassData) (sl : Array (Option Value)) : Bool := mroB C cd.mro && (cd.hasDict && (!cd.hasDel && slB sl.toList))
def clO (K : PySem.W.Frag) (C : Addr) : Bool := match K.lookup C with
  | some ⟨.type t, _, .cls cd, sl⟩ => decide (t = "type") && cdB C cd sl
  | _ => false
def oexB (K : PySem.W.Frag) (C : Addr) : Bool := clO K C && (decide (PySem.W.findIn K (.ref C) "__setattr__" = some (some (.builtin "object.__setattr__"))) && (decide (PySem.W.subIn K (.ref C) (.type "BaseException") = some true) && (decide (PySem.W.typeIn K (.ref C) = some (.type "type")) && PySem.W.keepIn K (.ref C))))
def clsB (K : PySem.W.Frag) (c n : Str) : Bool := oexB K (gX K c) && (decide (PySem.W.mroIn K (gX K c) (.ref (gX K c)) = some true) && (decide (PySem.W.ks_superIn K (gX K c) (gX K c) "__init__" = some (some (.builtin "ValueError.__init__"))) &&
  (decide (PySem.W.subIn K (.ref (gX K c)) (.type "ValueError") = some true) && (decide (PySem.W.nsIn K PySem.cStatics "thirdparty.any" = some none) && decide (PySem.W.findIn K (.ref (gX K c)) n = some none)))))
abbrev gN (K : PySem.W.Frag) : Addr := He.ga K "NEW_ROOT"
def z9B : List Value → Nat → Bool
  | [], 0 => true
  | .int i _ :: vs, n + 1 => decide (i = 0) && z9B vs n
  | _, _ => false
def plB (K : PySem.W.Frag) (p : Addr) : Bool := match itsOf K p with
  | some vs => z9B vs 9
  | none => false
def pAt (K : PySem.W.Frag) : Addr := match itsOf K (gN K) with
  | some [_, _, .ref p] => p
  | _ => 0
def rtB (K : PySem.W.Frag) : Bool := match itsOf K (gN K) with
  | some [.int i _, .int j _, .ref p] => decide (i = 0) && (decide (j = 0) && decide (p = pAt K))
  | _ => false
def newB (K : PySem.W.Frag) : Bool := rtB K && plB K (pAt K)
def icl : List (Str × Str × Str) := [("BadDeal", "BadDeal.__init__", "place"), ("BadText", "BadText.__init__", "row")]
abbrev FnY : Type := List FnY1
def fnY (K : PySem.W.Frag) : FnY := icl.map fun p => fnY1 K p.1
def iniB (K : PySem.W.Frag) : Bool := icl.all fun p => initB K p.1 p.2.1 && clsB K p.1 p.2.2
def excB (K : PySem.W.Frag) (D : Addr) : Bool := decide (PySem.W.findIn K (.ref D) "__getattribute__" = some (some (.builtin "BaseException.__getattribute__"))) && (decide (PySem.W.findIn K (.ref D) "__getattr__" = some none) &&
  (decide (PySem.W.subIn K (.ref D) (.type "BaseException") = some true) && (PySem.W.hasDictIn K D && (decide (PySem.W.findIn K (.ref D) "__class__" = some (some (.builtin "object.__class__"))) &&
  (decide (PySem.W.specialIn K (.builtin "object.__class__") "__get__" = some (some (.builtin "getset_descriptor.__get__"))) && (decide (PySem.W.takesIn K (.builtin "object.__class__") = some true) && decide (PySem.W.mroIn K D (.type "object") = some true)))))))
def clsN (i : Nat) : Str := match i with
  | 0 => "BadDeal"
  | 1 => "BadHand"
  | 2 => "BadLetter"
  | 3 => "BadTime"
  | 4 => "BadKey"
  | 5 => "BadHouse"
  | 6 => "NoCopy"
  | 7 => "Behind"
  | 8 => "BadBlock"
  | 9 => "BadEntry"
  | 10 => "BadText"
  | _ => "Stopped"
def cisB (K : PySem.W.Frag) (j : Nat) : Bool := excB K (He.ga K (clsN j)) && (((List.range 12).all fun i => decide (PySem.W.kitOne K (.ref (He.ga K (clsN j))) (.ref (He.ga K (clsN i))) = some (decide (i = j)))) &&
  (decide (PySem.W.kitOne K (.ref (He.ga K (clsN j))) (.type "ValueError") = some true) && decide (PySem.W.exmOne K (.ref (He.ga K (clsN j))) (.ref (He.ga K "StillError")) = some true)))
def ndB : List Addr → Bool
  | [] => true
  | a :: l => (l.all fun b => decide (a ≠ b)) && ndB l
def tfL : List He.Defn := [("read_row", none), ("_law_told", none)]
def tabB (K : PySem.W.Frag) : Bool := ndB (tfL.map fun p => (He.cT K p).2)
def keyW (v : Value) : Bool := match v with
  | .str x _ => x == "put" || (x == "drop" || (x == "add" || x == "if"))
  | _ => false
def bnoB (K : PySem.W.Frag) : Bool := match K.lookup (gB K) with
  | some ⟨_, _, .dict es _, _⟩ => es.toList.all fun e => !e.refKey && keyW e.key
  | _ => false
def nstB (K : PySem.W.Frag) : Bool := decide (PySem.W.subIn K (.ref (He.ga K "BadText")) (.type "StopIteration") = some false)
def exB (K : PySem.W.Frag) : Bool := (boundsB K "put" [(0, 31), (0, 999), (0, 1000)] && (boundsB K "drop" [(0, 31)] && (boundsB K "add" [(0, 31), (-999, 999)] && boundsB K "if" [(0, 31), (0, 999)]))) &&
  ((bnoB K && nstB K) && (iniB K && ((cisB K 0 && (cisB K 1 && cisB K 10)) && tabB K)))
end
section
variable {fa : List He.Fa} {fn : List He.DefD} {ts : List He.Tab} {tf : List He.Defn} {ex : PySem.W.Frag → Bool} {w : World}
def asY (_ : Addr → Option Obj) : List Addr := 3 :: (List.range 1200).reverse
abbrev kY (g : Addr → Option Obj) : PySem.W.Frag := He.frT g (asY g)
abbrev AlY : Type := He.AlX × FnY
def obsY (fa : List He.Fa) (fn : List He.DefD) (ts : List He.Tab) (tf : List He.Defn) (ex : PySem.W.Frag → Bool) (g : Addr → Option Obj) : AlY := ((He.obsT fa fn ts (kY g), ex (kY g) && He.tabsB g tf (kY g)), fnY (kY g))
theorem says_gen {as : List Addr} {h : Heap} (e1 : He.obsT fa fn ts (He.frT h.get? as) = He.valT fn ts w) (e2 : (ex (He.frT h.get? as) && He.tabsB h.get? tf (He.frT h.get? as)) = true) : He.SaysX fa fn ts tf ex w h (He.frT h.get? as) := by
  obtain ⟨b1, b2⟩ := Bool.and_eq_true_iff.mp e2
  have c : ∀ p ∈ tf, PySem.W.codeHdIn (He.frT h.get? as) (He.cT (He.frT h.get? as) p).1 (He.cT (He.frT h.get? as) p).2 = true ∧ ∃ o, h.get? (He.cT (He.frT h.get? as) p).2 = some o ∧ He.emptyTab o = true := fun p m => by
    obtain ⟨a1, a2⟩ := Bool.and_eq_true_iff.mp (List.all_eq_true.mp b2 p m)
    refine ⟨a1, ?_⟩
    split at a2
    · rename_i o q
      exact ⟨o, q, a2⟩
    · cases a2
  refine ⟨e1, b1, fun p m => (c p m).1, fun p m => ?_, fun p m => ?_⟩
  · obtain ⟨_, o, q, z⟩ := c p m
    exact He.frT_none q z
  · obtain ⟨_, o, q, z⟩ := c p m
    rw [q, He.emptyTab_eq z]
structure SaysY (fa : List He.Fa) (fn : List He.DefD) (ts : List He.Tab) (tf : List He.Defn) (ex : PySem.W.Frag → Bool) (fy : FnY) (w : World) (h : Heap) (K : PySem.W.Frag) : Prop where
  x : He.SaysX fa fn ts tf ex w h K
  y : fnY K = fy
theorem ofY {fy : FnY} {h : Heap} (e : obsY fa fn ts tf ex h.get? = ((He.valT fn ts w, true), fy)) : ∃ K : PySem.W.Frag, K.In h ∧ SaysY fa fn ts tf ex fy w h K := by
  unfold obsY at e
  obtain ⟨e12, e3⟩ := Prod.mk.inj e
  obtain ⟨e1, e2⟩ := Prod.mk.inj e12
  exact ⟨kY h.get?, He.frT_in, ⟨says_gen e1 e2, e3⟩⟩
theorem keepY {fy : FnY} {h h' : Heap} (y : ∃ K : PySem.W.Frag, K.In h ∧ SaysY fa fn ts tf ex fy w h K) (k : ∀ b o, h.get? b = some o → h'.get? b = some o) : ∃ K : PySem.W.Frag, K.In h' ∧ SaysY fa fn ts tf ex fy w h' K := by
  obtain ⟨K, hK, c⟩ := y
  exact ⟨K, PySem.W.Frag.In.keeps hK k, ⟨⟨c.x.t, c.x.more, c.x.hd, c.x.out, fun p m => k _ _ (c.x.empty p m)⟩, c.y⟩⟩
def hookY (fa : List He.Fa) (fn : List He.DefD) (ts : List He.Tab) (tf : List He.Defn) (ex : PySem.W.Frag → Bool) (fy : FnY) : PySem.W.Hook where
  α := AlY
  obs := fun s => obsY fa fn ts tf ex s.heap.get?
  val := fun w => ((He.valT fn ts w, true), fy)
  says := fun w h => ∃ K : PySem.W.Frag, K.In h ∧ SaysY fa fn ts tf ex fy w h K
  of := fun _ _ e => ofY e
  keeps := fun _ _ _ y k => keepY y k
theorem obsY_eq {fy : FnY} {g : Addr → Option Obj} {s : Shared} (h : ∀ a, g a = s.heap.get? a) : obsY fa fn ts tf ex g = (hookY fa fn ts tf ex fy).obs s := by
  have e : g = s.heap.get? := funext h
  rw [e] <;> rfl
end
end S02

set_option Elab.async false
set_option linter.all false
set_option maxRecDepth 100000
set_option maxHeartbeats 0
namespace S02
open PySem PySem.Spec PyProof.Rows L2 LamX
def fn0 : List He.DefD := [⟨("within", none), "within", "within", defArgs s_within, defBody s_within, defScope s_within, [], []⟩, ⟨("check_hand", none), "check_hand", "check_hand", defArgs s_check_hand, defBody s_check_hand, defScope s_check_hand, [], []⟩, ⟨("is_deed", none), "is_deed", "is_deed", defArgs s_is_deed, defBody s_is_deed, defScope s_is_deed, [], []⟩, ⟨("check_deal", none), "check_deal", "check_deal", defArgs s_check_deal, defBody s_check_deal, defScope s_check_deal, [], []⟩, ⟨("check_deals", none), "check_deals", "check_deals", defArgs s_check_deals, defBody s_check_deals, defScope s_check_deals, [], []⟩, ⟨("read_number", none), "read_number", "read_number", defArgs s_read_number, defBody s_read_number, defScope s_read_number, [], []⟩, ⟨("read_last", none), "read_last", "read_last", defArgs s_read_last, defBody s_read_last, defScope s_read_last, [], []⟩, ⟨("read_deed", none), "read_deed", "read_deed", defArgs s_read_deed, defBody s_read_deed, defScope s_read_deed, [], []⟩, ⟨("read_row", none), "read_row", "read_row", defArgs s_read_row, defBody s_read_row, defScope s_read_row, [], []⟩, ⟨("read_deals", none), "read_deals", "read_deals", defArgs s_read_deals, defBody s_read_deals, defScope s_read_deals, [], []⟩, ⟨("_law_begun", none), "_law_begun", "_law_begun", defArgs s_begun, defBody s_begun, defScope s_begun, [], []⟩, ⟨("_law_take", none), "_law_take", "_law_take", defArgs s_take, defBody s_take, defScope s_take, [], []⟩]
def fn1 : List He.DefD := [⟨("_law_alike", none), "_law_alike", "_law_alike", defArgs s_alike, defBody s_alike, defScope s_alike, [], []⟩, ⟨("_law_class", none), "_law_class", "_law_class", defArgs s_class, defBody s_class, defScope s_class, [], []⟩, ⟨("_law_refused", none), "_law_refused", "_law_refused", defArgs s_refused, defBody s_refused, defScope s_refused, [], []⟩, ⟨("_law_all", none), "_law_all", "_law_all", defArgs s_all, defBody s_all, defScope s_all, [], []⟩, ⟨("_law_store", none), "_law_store", "_law_store", defArgs s_store, defBody s_store, defScope s_store, [], []⟩, ⟨("_law_again", none), "_law_again", "_law_again", defArgs s_again, defBody s_again, defScope s_again, [], []⟩, ⟨("_law_seen", none), "_law_seen", "_law_seen", defArgs s_seen, defBody s_seen, defScope s_seen, [], []⟩, ⟨("_law_tried", none), "_law_tried", "_law_tried", defArgs s_tried, defBody s_tried, defScope s_tried, [], []⟩, ⟨("_law_deal", none), "_law_deal", "_law_deal", defArgs s_deal, defBody s_deal, defScope s_deal, [], []⟩, ⟨("_law_whole", none), "_law_whole", "_law_whole", defArgs s_whole, defBody s_whole, defScope s_whole, [], []⟩, ⟨("_law_deed", none), "_law_deed", "_law_deed", defArgs s_deed, defBody s_deed, defScope s_deed, [], []⟩, ⟨("_law_drawn", none), "_law_drawn", "_law_drawn", defArgs s_drawn, defBody s_drawn, defScope s_drawn, [], []⟩]
def fn2 : List He.DefD := [⟨("_law_deals", none), "_law_deals", "_law_deals", defArgs s_deals, defBody s_deals, defScope s_deals, [], []⟩, ⟨("_law_text", none), "_law_text", "_law_text", defArgs s_text, defBody s_text, defScope s_text, [], []⟩, ⟨("_law_spoilt", none), "_law_spoilt", "_law_spoilt", defArgs s_spoilt, defBody s_spoilt, defScope s_spoilt, [], []⟩, ⟨("_law_wrong", none), "_law_wrong", "_law_wrong", defArgs s_wrong, defBody s_wrong, defScope s_wrong, [], []⟩, ⟨("_law_number", none), "_law_number", "_law_number", defArgs s_number, defBody s_number, defScope s_number, [], []⟩, ⟨("_law_part", none), "_law_part", "_law_part", defArgs s_part, defBody s_part, defScope s_part, [], []⟩, ⟨("_law_row", none), "_law_row", "_law_row", defArgs s_row, defBody s_row, defScope s_row, [], []⟩, ⟨("_law_fault", none), "_law_fault", "_law_fault", defArgs s_fault, defBody s_fault, defScope s_fault, [], []⟩, ⟨("_law_due", none), "_law_due", "_law_due", defArgs s_due, defBody s_due, defScope s_due, [], []⟩, ⟨("_law_told", none), "_law_told", "_law_told", defArgs s_told, defBody s_told, defScope s_told, [], []⟩, ⟨("law", none), "law", "law", defArgs s_law, defBody s_law, defScope s_law, [], []⟩]
def fn : List He.DefD := fn0 ++ (fn1 ++ (fn2))
def fa0 : List He.Fa := [.glo "within", .glo "check_hand", .glo "is_deed", .glo "check_deal", .glo "check_deals", .glo "read_number", .glo "read_last", .glo "read_deed", .glo "read_row", .glo "read_deals", .glo "_law_begun", .glo "_law_take", .glo "_law_alike", .glo "_law_class", .glo "_law_refused", .glo "_law_all", .glo "_law_store", .glo "_law_again", .glo "_law_seen", .glo "_law_tried", .glo "_law_deal", .glo "_law_whole", .glo "_law_deed", .glo "_law_drawn", .glo "_law_deals", .glo "_law_text", .glo "_law_spoilt", .glo "_law_wrong", .glo "_law_number", .glo "_law_part"]
def fa1 : List He.Fa := [.glo "_law_row", .glo "_law_fault", .glo "_law_due", .glo "_law_told", .glo "law", .glo "StillError", .glo "BadDeal", .glo "BadHand", .glo "BadLetter", .glo "BadTime", .glo "BadKey", .glo "BadHouse", .glo "NoCopy", .glo "Behind", .glo "BadBlock", .glo "BadEntry", .glo "BadText", .glo "Stopped", .exc "BadHand", .exm "BadHand" "StillError" true, .exc "BadLetter", .exm "BadLetter" "StillError" true, .exc "BadTime", .exm "BadTime" "StillError" true, .exc "BadKey", .exm "BadKey" "StillError" true, .exc "BadHouse", .exm "BadHouse" "StillError" true, .exc "NoCopy", .exm "NoCopy" "StillError" true]
def fa2 : List He.Fa := [.exc "BadBlock", .exm "BadBlock" "StillError" true, .exc "BadEntry", .exm "BadEntry" "StillError" true, .exc "Stopped", .exm "Stopped" "StillError" true, .int "LAST_KEY" 31, .int "LAST_HAND" 3, .int "MOST_DEEDS" 4, .int "MOST_FIGURES" 4, .free "ValueError", .free "abs", .free "all", .free "bool", .free "dict", .free "enumerate", .free "int", .free "isinstance", .free "len", .free "list", .free "range", .free "sorted", .free "str", .free "tuple", .free "zip"]
def fa3 : List He.Fa := [.glo "BOUNDS", .free "super", .str "FIGURES" "0123456789"]
def fa : List He.Fa := fa0 ++ (fa1 ++ (fa2 ++ (fa3)))
def tf : List He.Defn := [("read_row", none), ("_law_told", none)]
def ex (_ : PySem.W.Frag) : Bool := true
def ts : List He.Tab := [((fun K => He.ga K "BOUNDS"), ["put", "drop", "add", "if"])]
def fy : FnY := [some ("__init__", "BadDeal.__init__", defArgs s_BadDeal___init__, .stmts (defBody s_BadDeal___init__), defScope s_BadDeal___init__, mainGlobals, ["__class__"], .none, builtinsNs), some ("__init__", "BadText.__init__", defArgs s_BadText___init__, .stmts (defBody s_BadText___init__), defScope s_BadText___init__, mainGlobals, ["__class__"], .none, builtinsNs)]
def loose0 : List PySem.Str := ["within", "check_hand", "is_deed", "check_deal", "check_deals", "read_number", "read_last", "read_deed", "read_row", "read_deals", "_law_begun", "_law_take", "_law_alike", "_law_class", "_law_refused", "_law_all", "_law_store", "_law_again", "_law_seen", "_law_tried", "_law_deal", "_law_whole", "_law_deed", "_law_drawn", "_law_deals", "_law_text", "_law_spoilt", "_law_wrong", "_law_number", "_law_part"]
def loose1 : List PySem.Str := ["_law_row", "_law_fault", "_law_due", "_law_told", "StillError", "BadDeal", "BadHand", "BadLetter", "BadTime", "BadKey", "BadHouse", "NoCopy", "Behind", "BadBlock", "BadEntry", "BadText", "Stopped", "LAST_KEY", "LAST_HAND", "MOST_DEEDS", "BOUNDS", "FIGURES", "MOST_FIGURES"]
def loose : List PySem.Str := loose0 ++ (loose1)
abbrev R : PySem.W.OpenRow := PySem.W.OpenLaw.row PySem.Challenge.rw_stillcopy_k19_texts_refused
abbrev hk : PySem.W.Hook := hookY fa fn ts tf exB fy
def ob (s : PySem.W.SharedT) : AlY := obsY fa fn ts tf exB (HandSHeadRun.getT s)
theorem ob_eq (s : PySem.W.SharedT) : ob s = hk.obs s.abs := obsY_eq (HandSHeadRun.getT_eq s)
open HandSHeadRun
theorem runEq_and {r : PySem.W.OpenRow} {q : Program} {H1 H2 H : PySem.W.Hook} {ob1 : PySem.W.SharedT → H1.α} {ob2 : PySem.W.SharedT → H2.α} {M : Nat} {lo : List PySem.Str} {w : World} {ob : PySem.W.SharedT → H.α} (j : H1.α → H2.α → H.α)
    (h1 : RunEq r q H1 ob1 M lo w) (h2 : RunEq r q H2 ob2 M lo w) (eo : ∀ s, ob s = j (ob1 s) (ob2 s)) (ev : H.val w = j (H1.val w) (H2.val w)) : RunEq r q H ob M lo w := by
  intro os
  have a := h1 os
  have b := h2 os
  revert a b
  generalize endF (stepQ (denQ tabQ) r.prog w) M r.prog w os = x
  cases x with
  | none => intro a; cases a
  | some s =>
    intro a b
    obtain ⟨a1, a⟩ := Prod.mk.inj (Option.some.inj a)
    obtain ⟨a2, a3⟩ := Prod.mk.inj a
    obtain ⟨b1, b⟩ := Prod.mk.inj (Option.some.inj b)
    obtain ⟨b2, b3⟩ := Prod.mk.inj b
    refine congrArg some (Prod.ext a1 (Prod.ext a2 ?_))
    show ob s = H.val w
    rw [eo, ev, a3, b3]
abbrev kT (s : PySem.W.SharedT) : PySem.W.Frag := kY (getT s)
abbrev hkA : PySem.W.Hook := { α := Bool, obs := fun s => fa.all fun f => f.ok (kY s.heap.get?), val := fun _ => true, says := fun _ _ => True, of := fun _ _ _ => trivial, keeps := fun _ _ _ _ _ => trivial }
def obA (s : PySem.W.SharedT) : Bool := fa.all fun f => f.ok (kY (getT s))
abbrev hkB : PySem.W.Hook := { α := Bool × List He.FnW, obs := fun s => (fn.all fun d => d.ok (kY s.heap.get?), fn.map fun d => He.fnW (kY s.heap.get?) d.at_), val := fun _ => (true, fn.map He.DefD.val), says := fun _ _ => True, of := fun _ _ _ => trivial, keeps := fun _ _ _ _ _ => trivial }
def obB (s : PySem.W.SharedT) : Bool × List He.FnW := (fn.all fun d => d.ok (kY (getT s)), fn.map fun d => He.fnW (kY (getT s)) d.at_)
abbrev AlC : Type := (List (Option (List (Option (Str × Int)))) × Bool) × FnY
abbrev hkC : PySem.W.Hook := { α := AlC, obs := fun s => ((ts.map fun t => He.dicW (kY s.heap.get?) (t.1 (kY s.heap.get?)), exB (kY s.heap.get?) && He.tabsB s.heap.get? tf (kY s.heap.get?)), fnY (kY s.heap.get?)), val := fun w => ((ts.map fun t => some (He.keysIn w.params t.2), true), fy), says := fun _ _ => True, of := fun _ _ _ => trivial, keeps := fun _ _ _ _ _ => trivial }
def obC (s : PySem.W.SharedT) : AlC := ((ts.map fun t => He.dicW (kY (getT s)) (t.1 (kY (getT s))), exB (kY (getT s)) && He.tabsB (getT s) tf (kY (getT s))), fnY (kY (getT s)))
abbrev hkAB : PySem.W.Hook := { α := He.AlD, obs := fun s => He.obsD fa fn (kY s.heap.get?), val := fun _ => He.valD fn, says := fun _ _ => True, of := fun _ _ _ => trivial, keeps := fun _ _ _ _ _ => trivial }
def obAB (s : PySem.W.SharedT) : He.AlD := He.obsD fa fn (kY (getT s))
theorem all_split {α : Type} (l : List α) (n : Nat) (p : α → Bool) : l.all p = ((l.take n).all p && (l.drop n).all p) := by rw [← List.all_append, List.take_append_drop]
theorem map_split {α β : Type} (l : List α) (n : Nat) (g : α → β) : l.map g = (l.take n).map g ++ (l.drop n).map g := by rw [← List.map_append, List.take_append_drop]
def fnB1 : List He.DefD := fn.take (fn.length / 2)
abbrev hkB1 : PySem.W.Hook := { α := Bool × List He.FnW, obs := fun s => (fnB1.all fun d => d.ok (kY s.heap.get?), fnB1.map fun d => He.fnW (kY s.heap.get?) d.at_), val := fun _ => (true, fnB1.map He.DefD.val), says := fun _ _ => True, of := fun _ _ _ => trivial, keeps := fun _ _ _ _ _ => trivial }
def obB1 (s : PySem.W.SharedT) : Bool × List He.FnW := (fnB1.all fun d => d.ok (kY (getT s)), fnB1.map fun d => He.fnW (kY (getT s)) d.at_)
def fnB2 : List He.DefD := fn.drop (fn.length / 2)
abbrev hkB2 : PySem.W.Hook := { α := Bool × List He.FnW, obs := fun s => (fnB2.all fun d => d.ok (kY s.heap.get?), fnB2.map fun d => He.fnW (kY s.heap.get?) d.at_), val := fun _ => (true, fnB2.map He.DefD.val), says := fun _ _ => True, of := fun _ _ _ => trivial, keeps := fun _ _ _ _ _ => trivial }
def obB2 (s : PySem.W.SharedT) : Bool × List He.FnW := (fnB2.all fun d => d.ok (kY (getT s)), fnB2.map fun d => He.fnW (kY (getT s)) d.at_)
theorem runAF (w : World) : HandSHeadRun.RunEq R (PySem.W.view R.prog [58]) hkA obA 12000 loose (w.withFollow "special-get-raises" false) := by
  intro os
  kernel_rfl
theorem runAT (w : World) : HandSHeadRun.RunEq R (PySem.W.view R.prog [58]) hkA obA 12000 loose (w.withFollow "special-get-raises" true) := by
  intro os
  kernel_rfl
theorem runB1F (w : World) : HandSHeadRun.RunEq R (PySem.W.view R.prog [58]) hkB1 obB1 12000 loose (w.withFollow "special-get-raises" false) := by
  intro os
  kernel_rfl
theorem runB1T (w : World) : HandSHeadRun.RunEq R (PySem.W.view R.prog [58]) hkB1 obB1 12000 loose (w.withFollow "special-get-raises" true) := by
  intro os
  kernel_rfl
theorem runB2F (w : World) : HandSHeadRun.RunEq R (PySem.W.view R.prog [58]) hkB2 obB2 12000 loose (w.withFollow "special-get-raises" false) := by
  intro os
  kernel_rfl
theorem runB2T (w : World) : HandSHeadRun.RunEq R (PySem.W.view R.prog [58]) hkB2 obB2 12000 loose (w.withFollow "special-get-raises" true) := by
  intro os
  kernel_rfl
theorem runCF (w : World) : HandSHeadRun.RunEq R (PySem.W.view R.prog [58]) hkC obC 12000 loose (w.withFollow "special-get-raises" false) := by
  intro os
  kernel_rfl
theorem runCT (w : World) : HandSHeadRun.RunEq R (PySem.W.view R.prog [58]) hkC obC 12000 loose (w.withFollow "special-get-raises" true) := by
  intro os
  kernel_rfl
theorem runBF (w : World) : HandSHeadRun.RunEq R (PySem.W.view R.prog [58]) hkB obB 12000 loose (w.withFollow "special-get-raises" false) :=
  runEq_and (H1 := hkB1) (H2 := hkB2) (ob1 := obB1) (ob2 := obB2) (fun x y => (x.1 && y.1, x.2 ++ y.2)) (runB1F w) (runB2F w) (fun _ => Prod.ext (all_split _ _ _) (map_split _ _ _)) (Prod.ext rfl (map_split _ _ _))
theorem runBT (w : World) : HandSHeadRun.RunEq R (PySem.W.view R.prog [58]) hkB obB 12000 loose (w.withFollow "special-get-raises" true) :=
  runEq_and (H1 := hkB1) (H2 := hkB2) (ob1 := obB1) (ob2 := obB2) (fun x y => (x.1 && y.1, x.2 ++ y.2)) (runB1T w) (runB2T w) (fun _ => Prod.ext (all_split _ _ _) (map_split _ _ _)) (Prod.ext rfl (map_split _ _ _))
theorem runF (w : World) : HandSHeadRun.RunEq R (PySem.W.view R.prog [58]) hk ob 12000 loose (w.withFollow "special-get-raises" false) :=
  runEq_and (H1 := hkAB) (H2 := hkC) (ob1 := obAB) (ob2 := obC) (fun a c => (((a, c.1.1), c.1.2), c.2)) (runEq_and (H1 := hkA) (H2 := hkB) (ob1 := obA) (ob2 := obB) (fun a b => (a && b.1, b.2)) (runAF w) (runBF w) (fun _ => rfl) rfl) (runCF w) (fun _ => rfl) rfl
theorem runT (w : World) : HandSHeadRun.RunEq R (PySem.W.view R.prog [58]) hk ob 12000 loose (w.withFollow "special-get-raises" true) :=
  runEq_and (H1 := hkAB) (H2 := hkC) (ob1 := obAB) (ob2 := obC) (fun a c => (((a, c.1.1), c.1.2), c.2)) (runEq_and (H1 := hkA) (H2 := hkB) (ob1 := obA) (ob2 := obB) (fun a b => (a && b.1, b.2)) (runAT w) (runBT w) (fun _ => rfl) rfl) (runCT w) (fun _ => rfl) rfl
theorem run (w : World) : HandSHeadRun.RunEq R (PySem.W.view R.prog [58]) hk ob 12000 loose w :=
  PySem.W.byRow2 "special-get-raises" (P := fun w => HandSHeadRun.RunEq R (PySem.W.view R.prog [58]) hk ob 12000 loose w) runF runT w
theorem fact_bounds : fa[85]? = some (.glo "BOUNDS") := rfl
theorem fact_super : fa[86]? = some (.free "super") := rfl
theorem fact_fig : fa[87]? = some (.str "FIGURES" "0123456789") := rfl
end S02

set_option Elab.async false
set_option linter.all false
set_option maxRecDepth 100000
/-! ### 1. Heaps: what stays behind a deed -/
namespace K5
open PySem PySem.Spec PyProof.Rows L2
/-- objects that deeds may change -/
def Mu : HO → Prop
  | .lst _ => True
  | .dK _ => True
  | .ins _ _ _ => True
  | _ => False
/-- all stays but what may change and lies in F -/
def Kp (F : Addr → Prop) (H G : Hp) : Prop := ∀ b o, H b = some o → (Mu o → ¬ F b) → G b = some o
/-- the same, code tables aside -/
def Kt (F : Addr → Prop) (H G : Hp) : Prop := ∀ b o, H b = some o → (∀ ps, o ≠ .tbl ps) → (Mu o → ¬ F b) → G b = some o
def No : Addr → Prop := fun _ => False
theorem Kp.t {F : Addr → Prop} {H G : Hp} (k : Kp F H G) : Kt F H G := fun b o e _ n => k b o e n
theorem Kp.refl (F : Addr → Prop) (H : Hp) : Kp F H H := fun _ _ e _ => e
theorem Kt.refl (F : Addr → Prop) (H : Hp) : Kt F H H := fun _ _ e _ _ => e
theorem Kp.sub {F F' : Addr → Prop} {H G : Hp} (k : Kp F H G) (s : ∀ b, F b → F' b) : Kp F' H G := fun b o e n => k b o e fun m z => n m (s b z)
theorem Kt.sub {F F' : Addr → Prop} {H G : Hp} (k : Kt F H G) (s : ∀ b, F b → F' b) : Kt F' H G := fun b o e t n => k b o e t fun m z => n m (s b z)
/-- one deed behind another; the second may also change what is new -/
theorem Kp.trans {F F' : Addr → Prop} {H G I : Hp} (k : Kp F H G) (l : Kp F' G I) (s : ∀ b, F' b → F b ∨ H b = none) : Kp F H I := fun b o e n =>
  l b o (k b o e n) fun m z => (s b z).elim (n m) fun q => by rw [q] at e; cases e
theorem Kt.trans {F F' : Addr → Prop} {H G I : Hp} (k : Kt F H G) (l : Kt F' G I) (s : ∀ b, F' b → F b ∨ H b = none) : Kt F H I := fun b o e t n =>
  l b o (k b o e t n) t fun m z => (s b z).elim (n m) fun q => by rw [q] at e; cases e
theorem Kp.new {F : Addr → Prop} {H : Hp} {a : Addr} {o : HO} (h : H a = none) : Kp F H (upd H a o) := fun b u e _ => by rw [upd_ne (ne_of_none e h)]; exact e
theorem Kp.upd {F : Addr → Prop} {H : Hp} {a : Addr} {o o' : HO} (h : H a = some o) (m : Mu o) (f : F a) : Kp F H (upd H a o') := fun b u e n => by
  have ne : b ≠ a := fun z => by
    subst z
    rw [h] at e
    cases e
    exact n m f
  rw [upd_ne ne]
  exact e
theorem Kp.updI {F : Addr → Prop} {H : Hp} {a C dx : Addr} {fs : List (Str × V)} {o' : HO} (h : H a = some (.ins C dx fs)) (f : F a) : Kp F H (L2.upd H a o') := Kp.upd h trivial f
theorem Kp.updL {F : Addr → Prop} {H : Hp} {a : Addr} {xs : List V} {o' : HO} (h : H a = some (.lst xs)) (f : F a) : Kp F H (L2.upd H a o') := Kp.upd h trivial f
theorem Kp.updD {F : Addr → Prop} {H : Hp} {a : Addr} {xs : List (Key × V)} {o' : HO} (h : H a = some (.dK xs)) (f : F a) : Kp F H (L2.upd H a o') := Kp.upd h trivial f
/-- one step more -/
theorem Kp.andI {F : Addr → Prop} {H G : Hp} {a C dx : Addr} {fs : List (Str × V)} {o' : HO} (k : Kp F H G) (h : G a = some (.ins C dx fs)) (f : F a) : Kp F H (L2.upd G a o') := k.trans (Kp.updI h f) fun _ z => .inl z
theorem Kp.andL {F : Addr → Prop} {H G : Hp} {a : Addr} {xs : List V} {o' : HO} (k : Kp F H G) (h : G a = some (.lst xs)) (f : F a) : Kp F H (L2.upd G a o') := k.trans (Kp.updL h f) fun _ z => .inl z
theorem Kp.andD {F : Addr → Prop} {H G : Hp} {a : Addr} {xs : List (Key × V)} {o' : HO} (k : Kp F H G) (h : G a = some (.dK xs)) (f : F a) : Kp F H (L2.upd G a o') := k.trans (Kp.updD h f) fun _ z => .inl z
theorem Kp.andN {F : Addr → Prop} {H G : Hp} {a : Addr} {o' : HO} (k : Kp F H G) (h : G a = none) : Kp F H (L2.upd G a o') := k.trans (Kp.new h) fun _ z => .inl z
/-- what is new behind it was new ahead of it -/
theorem Kp.free {F : Addr → Prop} {H G : Hp} {a : Addr} (k : Kp F H G) (h : G a = none) (n : F a → H a = none) : H a = none := by
  by_cases f : F a
  · exact n f
  · cases e : H a with
    | none => rfl
    | some o =>
      rw [k a o e fun _ => f] at h
      cases h
theorem Kt.ext {F : Addr → Prop} {H G : Hp} (e : LamX.ExtN H G) : Kt F H G := fun b o q t _ => e b o q t
theorem Kt.none {F : Addr → Prop} {H G : Hp} {a : Addr} (k : Kt F H G) (m : ∀ o, H a = some o → (∀ ps, o ≠ .tbl ps) ∧ (Mu o → ¬ F a)) (h : G a = Option.none) : H a = Option.none := by
  cases e : H a with
  | none => rfl
  | some o =>
    rw [k a o e (m o e).1 (m o e).2] at h
    cases h
theorem Kp.tabs {F : Addr → Prop} {H G : Hp} {T : List (Addr × Str)} (k : Kp F H G) (t : LamX.Tabs T H) : LamX.Tabs T G := fun p hp => by
  obtain ⟨ps, h1, h2, h3⟩ := t p hp
  exact ⟨ps, k _ _ h1 (fun m => nomatch m), h2, fun pos cv hc => by
    obtain ⟨c, e1, e2⟩ := h3 pos cv hc
    exact ⟨c, e1, k _ _ e2 fun m => by unfold LamX.CodeO at m; exact nomatch m⟩⟩
theorem Kt.tup {F : Addr → Prop} {H G : Hp} (k : Kt F H G) {a : Addr} {xs : List V} (h : H a = some (.tup xs)) : G a = some (.tup xs) := k _ _ h (fun _ z => nomatch z) fun m => nomatch m
theorem Kt.lst {F : Addr → Prop} {H G : Hp} (k : Kt F H G) {a : Addr} {xs : List V} (h : H a = some (.lst xs)) (n : ¬ F a) : G a = some (.lst xs) := k _ _ h (fun _ z => nomatch z) fun _ => n
theorem Kt.dK {F : Addr → Prop} {H G : Hp} (k : Kt F H G) {a : Addr} {xs : List (Key × V)} (h : H a = some (.dK xs)) (n : ¬ F a) : G a = some (.dK xs) := k _ _ h (fun _ z => nomatch z) fun _ => n
theorem Kt.ins {F : Addr → Prop} {H G : Hp} (k : Kt F H G) {a C dx : Addr} {fs : List (Str × V)} (h : H a = some (.ins C dx fs)) (n : ¬ F a) : G a = some (.ins C dx fs) := k _ _ h (fun _ z => nomatch z) fun _ => n

theorem upd_none {H : Hp} {a b : Addr} {o : HO} (h : upd H a o b = none) : b ≠ a ∧ H b = none := by
  by_cases e : b = a
  · rw [e, upd_same] at h
    cases h
  · rw [upd_ne e] at h
    exact ⟨e, h⟩

/-! ### 2. Data: what is written into blocks -/
def leafV : V → Bool
  | .non => true
  | .bl _ => true
  | .int _ => true
  | .str x => PyData.strOk x
  | _ => false
def SumD (P : V → Nat → Nat → Prop) : List V → Nat → Nat → Prop
  | [], w, z => w = 0 ∧ z = 0
  | v :: vs, w, z => ∃ x y a b, P v x a ∧ SumD P vs y b ∧ w = x + y ∧ z = a + b
/-- v is a leaf, or tuples within one another, at most n deep; w is its weight, z how many things it has -/
def Dat (H : Hp) : Nat → V → Nat → Nat → Prop
  | 0, _, _, _ => False
  | n + 1, v, w, z => (leafV v = true ∧ w = 1 ∧ z = 1) ∨ ∃ a xs u, v = .ref a ∧ H a = some (.tup xs) ∧ SumD (Dat H n) xs w u ∧ z = u + 1
theorem SumD.imp {P Q : V → Nat → Nat → Prop} (h : ∀ v w z, P v w z → Q v w z) : ∀ {xs : List V} {w z : Nat}, SumD P xs w z → SumD Q xs w z
  | [], _, _, e => e
  | _ :: _, _, _, ⟨x, y, a, b, p, r, e⟩ => ⟨x, y, a, b, h _ _ _ p, SumD.imp h r, e⟩
theorem SumD.mem {P : V → Nat → Nat → Prop} : ∀ {xs : List V} {w z : Nat}, SumD P xs w z → ∀ v ∈ xs, ∃ x a, P v x a
  | [], _, _, _, _, h => by cases h
  | _ :: _, _, _, ⟨x, _, a, _, p, r, _⟩, v, h => by
    rcases List.mem_cons.mp h with e | e
    · exact ⟨x, a, e ▸ p⟩
    · exact SumD.mem r v e
theorem SumD.app {P : V → Nat → Nat → Prop} : ∀ {xs ys : List V} {w z u t : Nat}, SumD P xs w z → SumD P ys u t → SumD P (xs ++ ys) (w + u) (z + t)
  | [], _, _, _, _, _, ⟨e, f⟩, r => by
    subst e f
    rw [Nat.zero_add, Nat.zero_add]
    exact r
  | _ :: _, _, _, _, _, _, ⟨x, y, a, b, p, q, e, f⟩, r => ⟨x, _, a, _, p, SumD.app q r, by omega, by omega⟩
theorem SumD.of_app {P : V → Nat → Nat → Prop} : ∀ {xs ys : List V} {w z : Nat}, SumD P (xs ++ ys) w z → ∃ x a y b, SumD P xs x a ∧ SumD P ys y b ∧ w = x + y ∧ z = a + b
  | [], _, _, _, r => ⟨0, 0, _, _, ⟨rfl, rfl⟩, r, by omega, by omega⟩
  | _ :: _, _, _, _, ⟨x, y, a, b, p, q, e, f⟩ => by
    obtain ⟨x', a', y', b', p', q', e', f'⟩ := SumD.of_app q
    exact ⟨_, _, y', b', ⟨x, x', a, a', p, p', rfl, rfl⟩, q', by omega, by omega⟩
theorem Dat.pos {H : Hp} : ∀ {n : Nat} {v : V} {w z : Nat}, Dat H n v w z → 1 ≤ z
  | 0, _, _, _, h => h.elim
  | _ + 1, _, _, _, .inl h => by omega
  | _ + 1, _, _, _, .inr ⟨a, xs, u, e, h, s, f⟩ => by omega
theorem SumD.len {H : Hp} {n : Nat} : ∀ {xs : List V} {w z : Nat}, SumD (Dat H n) xs w z → xs.length ≤ z
  | [], _, _, _ => Nat.zero_le _
  | _ :: _, _, _, ⟨x, y, a, b, p, r, e, f⟩ => by
    have h1 := p.pos
    have h2 := SumD.len r
    rw [List.length_cons]
    omega
theorem Dat.kt {F : Addr → Prop} {H G : Hp} (k : Kt F H G) : ∀ {n : Nat} {v : V} {w z : Nat}, Dat H n v w z → Dat G n v w z
  | 0, _, _, _, h => h
  | _ + 1, _, _, _, .inl h => .inl h
  | _ + 1, _, _, _, .inr ⟨a, xs, u, e, h, s, f⟩ => .inr ⟨a, xs, u, e, k.tup h, s.imp fun _ _ _ p => Dat.kt k p, f⟩
theorem Dat.up {H : Hp} : ∀ {n : Nat} {v : V} {w z : Nat}, Dat H n v w z → Dat H (n + 1) v w z
  | 0, _, _, _, h => h.elim
  | _ + 1, _, _, _, .inl h => .inl h
  | _ + 1, _, _, _, .inr ⟨a, xs, u, e, h, s, f⟩ => .inr ⟨a, xs, u, e, h, s.imp fun _ _ _ p => Dat.up p, f⟩
theorem Dat.le {H : Hp} {n m : Nat} {v : V} {w z : Nat} (d : Dat H n v w z) (h : n ≤ m) : Dat H m v w z := by
  induction m with
  | zero =>
    have : n = 0 := by omega
    subst this
    exact d
  | succ m ih =>
    by_cases e : n = m + 1
    · subst e
      exact d
    · exact (ih (by omega)).up
/-- x and y are the same data: leaves, tuples and lists of the same -/
def Al (H : Hp) : Nat → V → V → Prop
  | 0, _, _ => False
  | n + 1, x, y => (leafV y = true ∧ x = y) ∨ ∃ (a b : Addr) (xs ys : List V), x = .ref a ∧ y = .ref b ∧ ((H a = some (.tup xs) ∧ H b = some (.tup ys)) ∨ (H a = some (.lst xs) ∧ H b = some (.lst ys))) ∧ xs.length = ys.length ∧ (ys.length : Int) < 2 ^ 62 ∧ ∀ (i : Nat) (x y : V), xs[i]? = some x → ys[i]? = some y → Al H n x y
theorem SumD.mem2 {P : V → Nat → Nat → Prop} : ∀ {xs : List V} {w z : Nat}, SumD P xs w z → ∀ v ∈ xs, ∃ x a, P v x a ∧ a ≤ z
  | [], _, _, _, _, h => by cases h
  | _ :: _, _, _, ⟨x, _, a, b, p, r, _, e⟩, v, h => by
    rcases List.mem_cons.mp h with q | q
    · exact ⟨x, a, q ▸ p, by omega⟩
    · obtain ⟨x', a', p', l⟩ := SumD.mem2 r v q
      exact ⟨x', a', p', by omega⟩
theorem Dat.al {H : Hp} : ∀ {n : Nat} {v : V} {w z : Nat}, Dat H n v w z → z ≤ 10000 → Al H n v v
  | 0, _, _, _, h, _ => h.elim
  | _ + 1, _, _, _, .inl h, _ => .inl ⟨h.1, rfl⟩
  | _ + 1, _, _, _, .inr ⟨a, xs, u, e, h, s, f⟩, hz => .inr ⟨a, a, xs, xs, e, e, .inl ⟨h, h⟩, rfl, by have := s.len; omega, fun i x y hx hy => by
    rw [hx] at hy
    cases hy
    obtain ⟨w, z, d, l⟩ := s.mem2 x (List.mem_of_getElem? hx)
    exact d.al (by omega)⟩
theorem Al.leaf {H : Hp} {n : Nat} {v : V} (h : leafV v = true) : Al H (n + 1) v v := .inl ⟨h, rfl⟩
end K5

set_option Elab.async false
set_option linter.all false
set_option maxRecDepth 100000
set_option maxHeartbeats 1000000
/-! ### Rules for what the layer lacks: xs.extend(t), bs.count(True), d.update(pairs), zip(xs, t) -/
namespace K5
open PySem PySem.Spec PyProof.Rows L2
theorem ext_tup (l : Addr) (xs : Array Value) (n : Nat) (b : Addr) (ys : Array Value) (m : Nat) (dd : Option Addr) (sl : Array (Option Value))
    (h0 : ¬(!xs.isEmpty && Builtin.List.listTooLong (xs.size + ys.size)) = true) (h1 : xs.size ≤ sizeLine) (h2 : xs.size + ys.size ≤ sizeLine + 1) :
    Meets (Builtin.«list.extend» ⟨[.ref l, .ref b], []⟩) (fun _ R s => s.heap.get? l = some { cls := .type "list", dict := none, data := .seq xs n, slots := #[] } ∧ s.heap.get? b = some ⟨.type "tuple", dd, .seq ys m, sl⟩ ∧
      R (.ok (.ret Value.none)) { s with heap := s.heap.update l (Obj.mapSeq fun x => x ++ ys), toks := s.toks }) :=
  .of_wp fun prog w A R s h => by
    obtain ⟨hp, g, d, tk, os⟩ := s
    obtain ⟨hl, hb, h⟩ := h
    have f1 := PySem.AutoSeq1.idx_int
    have f2 := PySem.AutoSeq1.sub_tuple_tuple
    have f3 := PySem.AutoSeq1.sub_list_list
    have f4 := PySem.AutoSeq1.sub_tuple_list
    have f5 := PySem.AutoSeq1.sub_list_tuple
    have hz' : (xs ++ ys).size ≤ sizeLine + 1 := by rw [Array.size_append]; exact h2
    wp_walk using (wpAny_updateSeq hl rfl (hz := h1) (_hz' := hz')), wpAny_loadPart' hl, wpAny_loadPart' hb
    exact ⟨_, rfl, h⟩
def rExtT : V → List V → Hp → VK → Prop := fun x vs H Q => ∃ l b xs zs, x = .ref l ∧ vs = [.ref b] ∧ H l = some (.lst xs) ∧ H b = some (.tup zs) ∧ xs.length + zs.length ≤ sizeLine ∧ Q .non (upd H l (.lst (xs ++ zs)))
section
variable {X : Cx}
theorem mt_extT : MtM X "list.extend" rExtT := by
  intro pins s σ H x vs v us Q I rx rv h
  obtain ⟨l, b, xs, zs, rfl, rfl, hH, hB, hz, q⟩ := h
  cases rx
  obtain ⟨u, rfl, ru⟩ := rv.one
  cases ru
  obtain ⟨z, ja, n, r, hl, e⟩ := I.lstM hH
  obtain ⟨z2, jb, r2, ⟨oc, od, oda, osl⟩, e2, c2, m, d2⟩ := (show ObjOk X.prog X.w H s.heap b (.tup zs) from I.hok b _ hB)
  dsimp only at c2 d2
  subst c2 d2
  have hl2 := r2.length
  have fits : ja.toArray.size + jb.toArray.size ≤ sizeLine := by
    rw [List.size_toArray, List.size_toArray, ← hl, ← hl2]
    exact hz
  have door : ¬ (!ja.toArray.isEmpty && Builtin.List.listTooLong (ja.toArray.size + jb.toArray.size)) = true := by
    rw [notLongL fits, Bool.and_false]; exact Bool.false_ne_true
  refine call_meets F.slot_list_extend ⟨_, e, rfl⟩ F.entry_list_extend (F.args_list_extend_2 _ _) (ext_tup l ja.toArray n b jb.toArray m od osl door (by rw [List.size_toArray]; omega) (by omega)) ⟨e, e2, ?_⟩
  exact ⟨.non, _, I.lset (its' := ja ++ jb) hH e (by simp) (r.append r2) (by rw [List.length_append]; exact hz), rfl, q⟩
/-- bs.count(True) -/
def rCntB (K : PySem.W.Frag) : V → List V → Hp → VK → Prop := fun x xs H Q => ∃ (p : Addr) (bs : List Bool), x = .ref p ∧ xs = [.bl true] ∧ SqL K H p (bs.map V.bl) ∧ Q (.int (bs.count true : Nat)) H
theorem flat_bools (bs : List Bool) : (bs.map V.bl).all flatV = true := by
  rw [List.all_map]
  exact List.all_eq_true.mpr fun _ _ => rfl
theorem countB : ∀ {bs : List Bool} {us : List Value}, Vals (bs.map V.bl) us → us.countP (eqU (.bl true)) = bs.count true
  | [], _, r => by
    cases r
    rfl
  | b :: bs, _, r => by
    rw [List.map_cons] at r
    cases r with
    | cons h t =>
      rw [List.countP_cons, countB t, List.count_cons]
      have e : eqU (.bl true) _ = eqV (.bl b) (.bl true) := eqU_of h rfl
      rw [e]
      cases b <;> rfl
theorem mt_cntB : MtR X "list.count" (rCntB X.K) := by
  intro pins s σ H x xs v us Q I rx rxs h
  obtain ⟨p, bs, rfl, rfl, hs, q⟩ := h
  cases rx
  obtain ⟨u, rfl, ru⟩ := rxs.one
  obtain ⟨its, rv, ⟨⟨cls, dd, data, sl⟩, n, ho, hc, hdn, hd⟩, hlen⟩ := I.list hs
  dsimp only at hc hd
  subst hc hd
  refine call_meets PySem.F.slot_list_count ⟨_, ho, rfl⟩ PySem.F.entry_list_count (PySem.F.args_list_count_2 _ _) (SeqAt.list_countAt p its.toArray n dd sl u (eqU (.bl true))) ⟨ho, fun y hy => mem_eqAt ru rfl rv (flat_bools bs) y (by simpa using hy), ?_⟩
  refine ⟨.int (bs.count true : Nat), H, I.tok _, ⟨s.toks, ?_⟩, q⟩
  show Value.int ((its.toArray.toList.countP (eqU (.bl true)) : Nat) : Int) s.toks = _
  rw [show its.toArray.toList.countP (eqU (.bl true)) = bs.count true from countB rv]
end
end K5
namespace K5
open PySem PySem.Spec PyProof.Rows L2
section
variable {X : Cx} {pins : List (Addr × Obj)} {σ : L2.St} {H : Hp} {s : Shared}
theorem uvOf (I : Inv X pins σ H s) : ∀ {ps : List Addr} {kvs : List (Key × V)}, Paired (fun p kv => SqT X.K H p [kV kv.1, kv.2]) ps kvs →
    ∃ (rs : List (Key × Value)) (uv : List (Value × Value)), KV kvs rs ∧ rs.length = ps.length ∧ uv.length = ps.length ∧
      ∀ (j : Nat) (k v : Value), uv[j]? = some (k, v) → ∃ (b : Addr) (kk : Key), ps[j]? = some b ∧ IsTup s.heap b #[k, v] ∧ rs[j]? = some (kk, v) ∧ keyIs kk k = true
  | _, _, .nil => ⟨[], [], .nil, rfl, rfl, fun j k v e => by simp at e⟩
  | _, _, .cons (a := p) (b := kv) h t => by
    obtain ⟨rs, uv, r, l1, l2, hp⟩ := uvOf I t
    obtain ⟨its, rv, ht, _⟩ := I.tuple h
    obtain ⟨u, y, ei, ru, ry⟩ := vals2 rv
    subst ei
    refine ⟨(kv.1, y) :: rs, (u, y) :: uv, .cons ⟨rfl, ry⟩ r, by rw [List.length_cons, List.length_cons, l1], by rw [List.length_cons, List.length_cons, l2], fun j k v e => ?_⟩
    cases j with
    | zero =>
      have e' : (u, y) = (k, v) := Option.some.inj e
      cases e'
      exact ⟨p, kv.1, rfl, ht, rfl, kV_is (P := X.prog) (w := X.w) ru⟩
    | succ j => exact hp j k v (by simpa using e)
def rUpdP (K : PySem.W.Frag) : V → List V → Hp → VK → Prop := fun x xs H Q => ∃ (d a : Addr) (ps : List Addr) (acc kvs : List (Key × V)), x = .ref d ∧ xs = [.ref a] ∧ H d = some (.dK acc) ∧ SqL K H a (ps.map V.ref) ∧
  Paired (fun p kv => SqT K H p [kV kv.1, kv.2]) ps kvs ∧ acc.length + ps.length ≤ sizeLine ∧ Q .non (upd H d (.dK (mergeK acc kvs)))
theorem mt_updP (hcalm : X.calm = true) : MtR X "dict.update" (rUpdP X.K) := by
  intro pins s σ H x xs v us Q I rx rxs h
  obtain ⟨d, a, ps, acc, kvs, rfl, rfl, hd, hq, hp, hz, q⟩ := h
  cases rx
  obtain ⟨u, rfl, ru⟩ := rxs.one
  cases ru
  obtain ⟨its, rv, ⟨oa, n, ho, hc, hdn, hdat⟩, _⟩ := I.list hq
  have ei := refs_at rv
  subst ei
  obtain ⟨rs, uv, rel, l1, l2, hpr⟩ := uvOf I hp
  obtain ⟨zd, hsys, vs, rd, hD⟩ := (show ObjOk X.prog X.w H s.heap d (.dK acc) from I.hok d _ hd)
  have ok : PlainSeq "list" s.heap a (ps.map Value.ref).toArray ∧ PairItems s.heap (ps.map Value.ref).toArray (fun j => ps.getD j 0) uv := by
    refine ⟨⟨oa, n, ho, hc, hdn, hdat⟩, by simp [l2], fun j k v e => ?_⟩
    obtain ⟨b, kk, e1, e2, _⟩ := hpr j k v e
    have eg : ps.getD j 0 = b := by rw [List.getD_eq_getElem?_getD, e1]; rfl
    refine ⟨?_, ?_⟩
    · show (ps.map Value.ref).toArray[j]? = some (.ref (ps.getD j 0))
      rw [eg]
      simp [e1]
    · show PairAt s.heap (ps.getD j 0) k v
      rw [eg]
      exact .inl e2
  obtain ⟨od, hod, hcd⟩ := hD.typeIs (s := s)
  have hdf : d ∉ a :: (List.range uv.length).map (fun j => ps.getD j 0) := fun hm => by
    rcases List.mem_cons.mp hm with e | hm
    · subst e
      rw [ho] at hod
      cases hod
      rw [hc] at hcd
      exact absurd (Value.type.inj hcd) (by decide)
    · obtain ⟨j, hj, e⟩ := List.mem_map.mp hm
      have hj := List.mem_range.mp hj
      obtain ⟨b, kk, e1, ⟨ob, hob, hcb, _⟩, _⟩ := hpr j uv[j].1 uv[j].2 (List.getElem?_eq_getElem hj)
      have eg : ps.getD j 0 = b := by rw [List.getD_eq_getElem?_getD, e1]; rfl
      rw [eg] at e
      subst e
      rw [hob] at hod
      cases hod
      rw [hcb] at hcd
      exact absurd (Value.type.inj hcd) (by decide)
  have la : vs.length = acc.length := (Paired.length rd).symm
  refine call_update_pairs (knd := mixKind X.prog X.w) (kvs := rs) (PairArg.list a _ _ uv) (I.ok.hd hcalm) ok hdf ⟨by rw [l1, l2], fun i key v e => ?_⟩ hD (by rw [l2, la]; exact hz) fun h' tk hD' k => ?_
  · obtain ⟨b, kk, _, _, e3, e4⟩ := hpr i key v e
    exact ⟨kk, e3, e4⟩
  · have hlen : (mergeK acc kvs).length ≤ sizeLine := by
      refine Nat.le_trans (length_mergeK kvs acc) ?_
      rw [show kvs.length = ps.length by rw [← l1]; exact Paired.length rel]
      exact hz
    obtain ⟨oe, hoe, _⟩ := hD'.typeIs (s := { s with heap := h' })
    refine ⟨.non, _, I.write (t' := tk) (o := .dK (mergeK acc kvs)) (by rw [hd]; trivial) (.inl rfl) (fun b o nb e => k b o nb (fun z => nomatch z) e) ⟨oe, hoe⟩ ⟨hlen, hsys, _, KV.merge rel rd, hD'⟩, rfl, q⟩
end
end K5

set_option Elab.async false
set_option linter.all false
set_option maxRecDepth 100000
set_option maxHeartbeats 1000000
/-! ### zip of a list and of a list or a tuple -/
namespace K5
open PySem PySem.Spec PyProof.Rows L2
/-- how the second one is walked: its iterator's state, and what it stands for -/
structure Snd (P : Program) (w : World) (j b : Addr) where
  st : Nat → Heap → Prop
  own : Heap → Array Value → Prop
  obj : ∀ i h, st i h → ∃ o, h.get? j = some o ∧ ∀ v, o.data ≠ .cell v
  keep : ∀ i h g, st i h → (∀ o, h.get? j = some o → g.get? j = some o) → st i g
  draws : ∀ (A : Around) (ys : Array Value), A.handled = none → Draws P w A j [j, b] ys.size (fun i v => ys[i]? = some v) (fun i h => st i h ∧ own h ys)
def sndL (P : Program) (w : World) (j b : Addr) (ne : b ≠ j) : Snd P w j b where
  st := fun i h => h.IsListIter j b i
  own := fun h ys => h.IsList b ys
  obj := fun i h ⟨o, e, _, d⟩ => ⟨o, e, fun v q => by rw [d] at q; cases q⟩
  keep := fun i h g x k => x.at k
  draws := fun A ys hh => Draws.list hh j b ne ys
def sndT (P : Program) (w : World) (j b : Addr) (ne : b ≠ j) : Snd P w j b where
  st := fun i h => h.IsTupleIter j b i
  own := fun h ys => h.IsTuple b ys
  obj := fun i h ⟨o, e, _, d⟩ => ⟨o, e, fun v q => by rw [d] at q; cases q⟩
  keep := fun i h g x k => x.at k
  draws := fun A ys hh => Draws.tuple hh j b ne ys
/-- one turn after another: the items in new pairs -/
def ItM (K : PySem.W.Frag) (a : Addr) (sq : Hp → Prop) (xs ys : List V) : It where
  go := fun i H => SqL K H a xs ∧ sq H ∧ i < xs.length ∧ i < ys.length
  yld := fun i H v G => ∃ T x y, v = .ref T ∧ H T = none ∧ G = upd H T (.tup [x, y]) ∧ xs[i]? = some x ∧ ys[i]? = some y
  stop := fun i H => SqL K H a xs ∧ sq H ∧ i ≤ xs.length ∧ i ≤ ys.length ∧ (i = xs.length ∨ i = ys.length)
theorem turnM {P : Program} {w : World} {K : PySem.W.Frag} {elts : List Expr} {kk : Nat} {tpos : Pos} {a b z TI TO i1 i2 : Addr} {xs ys : List V} {sq : Hp → Prop} (D : Snd P w i2 b) (S : ZipSep2 z TI TO i1 i2 [i1, a] [i2, b]) (na : a ≠ i1)
    (rd : ∀ {X : Cx} {pins : List (Addr × Obj)} {σ : L2.St} {H : Hp} {s : Shared}, X.K = K → Inv X pins σ H s → sq H → ∃ its : List Value, Vals ys its ∧ D.own s.heap its.toArray) :
    Turn P w K (.Tuple elts kk tpos) (ItM K a sq xs ys) [z, TI, TO, i1, i2] z (fun i h => IsZip h z TI TO .none ∧ IsTupOf2 h TI (.ref i1) (.ref i2) ∧ (∃ x y, IsTupOf2 h TO x y) ∧ h.IsListIter i1 a i ∧ D.st i h) where
  mem := List.mem_cons_self
  obj := fun i h ⟨hz, hTI, ⟨x, y, hTO⟩, ⟨o1, e1, _, d1⟩, h2⟩ c hc => by
    simp only [List.mem_cons, List.not_mem_nil, or_false] at hc
    rcases hc with rfl | rfl | rfl | rfl | rfl
    · exact ⟨_, hz, nofun⟩
    · exact ⟨_, hTI, nofun⟩
    · exact ⟨_, hTO, nofun⟩
    · exact ⟨o1, e1, fun v q => by rw [d1] at q; cases q⟩
    · exact D.obj i h h2
  keep := fun i h g ⟨hz, hTI, ⟨x, y, hTO⟩, h1, h2⟩ k =>
    ⟨k _ (by simp) _ hz, k _ (by simp) _ hTI, ⟨x, y, k _ (by simp) _ hTO⟩, h1.at fun o q => k _ (by simp) o q, D.keep i h g h2 fun o q => k _ (by simp) o q⟩
  item := by
    intro X hP hw hK hc i pins s σ H E I hf ⟨hz, hTI, ⟨x0, y0, hTO⟩, h1, h2⟩ ⟨qx, qy, lx, ly⟩
    subst hP hw
    obtain ⟨ja, ra, pa, _⟩ := I.list (by rw [hK]; exact qx)
    obtain ⟨jb, rb, pb⟩ := rd hK I qy
    have la := ra.length
    have lb := rb.length
    have hh := I.ok.hd hc
    refine wpAny_pyNext_zipD2_item S (Draws.list (A := X.A.in1) hh i1 a na ja.toArray) (D.draws X.A.in1 jb.toArray hh) hz hTI hTO ⟨h1, pa.isList⟩ ⟨h2, pb⟩ (by simp; omega) (by simp; omega) fun u1 u2 g tk e1 e2 z' TO' n1 n2 hT hsz hk => ?_
    refine ⟨_, rfl, wpAny_letOwnedTupleGo_zip (s := { s with heap := g, toks := tk }) z' fun g' z'' sb => ?_⟩
    have hzl : z < s.heap.objs.size := Heap.lt_size hz
    have old : ∀ c o, c ∉ [z, TI, TO, i1, i2] → s.heap.get? c = some o → g'.get? c = some o := fun c o nc q => by
      simp only [List.mem_cons, List.not_mem_nil, or_false, not_or] at nc
      exact (sb.2 c nc.1).trans (hk c o nc.1 nc.2.2.1 nc.2.2.2.1 nc.2.2.2.2 q)
    obtain ⟨x, hx⟩ : ∃ x, xs[i]? = some x := ⟨_, List.getElem?_eq_getElem lx⟩
    obtain ⟨y, hy⟩ : ∃ y, ys[i]? = some y := ⟨_, List.getElem?_eq_getElem ly⟩
    obtain ⟨v1, hv1, r1⟩ := ra.get hx
    obtain ⟨v2, hv2, r2⟩ := rb.get hy
    have e1' : ja[i]? = some u1 := by simpa using e1
    have e2' : jb[i]? = some u2 := by simpa using e2
    rw [hv1] at e1'
    rw [hv2] at e2'
    cases e1'
    cases e2'
    have hT' : g'.get? s.heap.objs.size = some { cls := .type "tuple", data := .seq #[u1, u2] } := (sb.2 _ (Nat.ne_of_gt hzl)).trans hT
    have new : ObjOk X.prog X.w (upd H s.heap.objs.size (.tup [x, y])) g' s.heap.objs.size (.tup [x, y]) := ⟨by show 2 ≤ sizeLine; decide, [u1, u2], .cons r1 (.cons r2 .nil), ⟨_, hT', rfl, _, rfl⟩⟩
    refine ⟨.ref s.heap.objs.size, _, I.turnedNew (t' := tk) old hf (Nat.le_refl _) new, rfl, ⟨_, x, y, rfl, I.hok.fresh (Nat.le_refl _), rfl, hx, hy⟩, ⟨z'', (sb.2 _ S.TIz).trans (hk _ _ S.TIz S.TITO S.TIi1 S.TIi2 hTI), ⟨u1, u2, (sb.2 _ S.TOz).trans TO'⟩, n1.1.at fun o q => (sb.2 _ S.zi1.symm).trans q, D.keep _ _ _ n2.1 fun o q => (sb.2 _ S.zi2.symm).trans q⟩, fun c hcm => ?_⟩
    have hlt : c < s.heap.objs.size := by
      simp only [List.mem_cons, List.not_mem_nil, or_false] at hcm
      rcases hcm with rfl | rfl | rfl | rfl | rfl
      · exact hzl
      · exact Heap.lt_size hTI
      · exact Heap.lt_size hTO
      · obtain ⟨_, q, _⟩ := h1
        exact Heap.lt_size q
      · obtain ⟨_, q, _⟩ := D.obj i _ h2
        exact Heap.lt_size q
    rw [upd_ne (Nat.ne_of_lt hlt)]
    exact (hf c hcm).1
  done := by
    intro X hP hw hK hc i pins s σ H E I hf ⟨hz, hTI, ⟨x0, y0, hTO⟩, h1, h2⟩ ⟨qx, qy, lx, ly, hend⟩
    subst hP hw
    obtain ⟨ja, ra, pa, _⟩ := I.list (by rw [hK]; exact qx)
    obtain ⟨jb, rb, pb⟩ := rd hK I qy
    have la := ra.length
    have lb := rb.length
    have hh := I.ok.hd hc
    refine wpAny_pyNext_zipD2_end S (Draws.list (A := X.A.in1) hh i1 a na ja.toArray) (D.draws X.A.in1 jb.toArray hh) hz hTI hTO ⟨h1, pa.isList⟩ ⟨h2, pb⟩ (by simp; omega) (by simp; omega) (by simp; omega) fun g tk hk => ⟨rfl, I.turnedL (t' := tk) (ch := [z, TI, TO, i1, i2]) (fun c o nc q => ?_) hf⟩
    simp only [List.mem_cons, List.not_mem_nil, or_false, not_or] at nc
    exact hk c o nc.1 nc.2.2.1 nc.2.2.2.1 nc.2.2.2.2 q
  self := fun A i s Q E st h => wpAny_pyIter_zip st.1 h
def iZipM (K : PySem.W.Frag) (ta : TA) : TI := fun σ H R => ta σ H fun vs G => ∃ (a b : Addr) (xs ys : List V), vs = [.ref a, .ref b] ∧ SqL K G a xs ∧ ((SqL K G b ys ∧ R (ItM K a (fun J => SqL K J b ys) xs ys) G) ∨ (SqT K G b ys ∧ R (ItM K a (fun J => SqT K J b ys) xs ys) G))
theorem pi_zipM {X : Cx} {e e2 : Expr} {ta : TA} {p pos tpos : Pos} {elts : List Expr} {kk : Nat} (hg : Gl X "zip") (hm : X.mg "zip" = none) (ha : PA X [e, e2] ta)
    (hs : starEach [e, e2] X.env = (false, eval e X.env) :: starEach [e2] X.env := by rfl) (hpl : (backTo pos (starEach [e2] X.env)).any (·.1) = false := by rfl) :
    PI X (.Tuple elts kk tpos) (.Call (.Name "zip" p) [e, e2] [] pos) (iZipM X.K ta) := by
  refine ⟨fun pins s σ H R I h => Call_ (ld_blt I hg hm PyProof.Rows.boot_zip (PyProof.Rows.callWith_type1 (thn (ha.run pos pins s σ H _ I h) fun us s1 ⟨vs, G, I1, r1, a, b, xs, ys, ex, qx, q1⟩ => ?_) hs hpl))⟩
  subst ex
  obtain ⟨u1, u2, eu, ra, rb⟩ := vals2 r1
  subst eu
  cases ra
  cases rb
  have lt5 : ∀ {c n : Nat}, c ∈ [n + 4, n + 2, n + 3, n, n + 1] → n ≤ c := fun {c n} hc => by
    simp only [List.mem_cons, List.not_mem_nil, or_false] at hc
    omega
  have fr : ∀ c, c ∈ [s1.heap.objs.size + 4, s1.heap.objs.size + 2, s1.heap.objs.size + 3, s1.heap.objs.size, s1.heap.objs.size + 1] → FpOk X pins G c := fun c hc => I1.fpOk (lt5 hc) (I1.hok.fresh (lt5 hc))
  obtain ⟨ja, va, pa, _⟩ := I1.list qx
  have na : a ≠ s1.heap.objs.size := Nat.ne_of_lt pa.lt
  rcases q1 with ⟨qy, q⟩ | ⟨qy, q⟩
  · obtain ⟨jb, vb, pb, _⟩ := I1.list qy
    have nb : b ≠ s1.heap.objs.size + 1 := Nat.ne_of_lt (Nat.lt_succ_of_lt pb.lt)
    refine zip_begins2 (begins_list a ja.toArray) (begins_list b jb.toArray) pa.isList pb.isList fun g hz hTI hTO e1 e2 hsz hk => wpAny_pyIter_zip hz ?_
    refine ⟨_, _, _, _, G, rfl, I1.kept (t' := s1.toks) hk, turnM (sndL X.prog X.w (s1.heap.objs.size + 1) b nb) (zip_sep2 (fp1 := [a]) (fp2 := [b]) (by simpa using pa.lt) (by simpa using pb.lt)) na (fun {Y pn τ J t} eK IY sq => ?_), ⟨hz, hTI, ⟨_, _, hTO⟩, ⟨_, e1, rfl, rfl⟩, ⟨_, e2, rfl, rfl⟩⟩, fr, q⟩
    obtain ⟨jc, vc, pc, _⟩ := IY.list (by rw [eK]; exact sq)
    exact ⟨jc, vc, pc.isList⟩
  · obtain ⟨jb, vb, pb, _⟩ := I1.tuple qy
    have lb : b < s1.heap.objs.size := by
      obtain ⟨_, e, _⟩ := pb
      exact Heap.lt_size e
    have nb : b ≠ s1.heap.objs.size + 1 := Nat.ne_of_lt (Nat.lt_succ_of_lt lb)
    refine zip_begins2 (begins_list a ja.toArray) (begins_tuple b jb.toArray) pa.isList pb fun g hz hTI hTO e1 e2 hsz hk => wpAny_pyIter_zip hz ?_
    refine ⟨_, _, _, _, G, rfl, I1.kept (t' := s1.toks) hk, turnM (sndT X.prog X.w (s1.heap.objs.size + 1) b nb) (zip_sep2 (fp1 := [a]) (fp2 := [b]) (by simpa using pa.lt) (by simpa using lb)) na (fun {Y pn τ J t} eK IY sq => ?_), ⟨hz, hTI, ⟨_, _, hTO⟩, ⟨_, e1, rfl, rfl⟩, ⟨_, e2, rfl, rfl⟩⟩, fr, q⟩
    obtain ⟨jc, vc, pc, _⟩ := IY.tuple (by rw [eK]; exact sq)
    exact ⟨jc, vc, pc⟩
/-- a loop over such a zip -/
theorem for_zipM {K : PySem.W.Frag} {a : Addr} {sq : Hp → Prop} {xs ys : List V} {g : TG} {tb : TS} {D : Ends} {σ : L2.St} {H : Hp} (Pv : Nat → L2.St → Hp → Prop) (h0 : Pv 0 σ H) (hq : ∀ i σ H, Pv i σ H → SqL K H a xs ∧ sq H)
    (hs : ∀ (i : Nat) (x y : V) (T : Addr) (σ : L2.St) (H : Hp), xs[i]? = some x → ys[i]? = some y → Pv i σ H → H T = none → g (.ref T) σ (upd H T (.tup [x, y])) fun σ2 H2 => tb { D with nx := Pv (i + 1), ct := Pv (i + 1), bk := D.nx } σ2 H2)
    (hd : ∀ σ H, Pv (min xs.length ys.length) σ H → D.nx σ H) :
    ∃ W : Nat → Nat → L2.St → Hp → Prop, (∃ m, W 0 m σ H) ∧ ∀ i m σ H, W i m σ H →
      ((ItM K a sq xs ys).stop i H ∧ D.nx σ H) ∨ ((ItM K a sq xs ys).go i H ∧ ∃ N : L2.St → Hp → Prop, (∀ σ' H', N σ' H' → ∃ m', m' < m ∧ W (i + 1) m' σ' H') ∧ ∀ v H', (ItM K a sq xs ys).yld i H v H' → g v σ H' fun σ2 H2 => tb { D with nx := N, ct := N, bk := D.nx } σ2 H2) := by
  refine ⟨fun i m σ H => m = min xs.length ys.length - i ∧ i ≤ min xs.length ys.length ∧ Pv i σ H, ⟨_, rfl, Nat.zero_le _, h0⟩, ?_⟩
  rintro i m σ H ⟨rfl, hi, p⟩
  obtain ⟨qx, qy⟩ := hq i σ H p
  by_cases lt : i < min xs.length ys.length
  · refine .inr ⟨⟨qx, qy, by omega, by omega⟩, Pv (i + 1), fun σ' G p' => ⟨min xs.length ys.length - (i + 1), by omega, rfl, by omega, p'⟩, fun v G yl => ?_⟩
    obtain ⟨T, x, y, rfl, hT, rfl, e1, e2⟩ := yl
    exact hs i x y T σ H e1 e2 p hT
  · have e : i = min xs.length ys.length := by omega
    subst e
    exact .inl ⟨⟨qx, qy, by omega, by omega, by omega⟩, hd σ H p⟩
end K5

set_option Elab.async false
set_option linter.all false
set_option maxRecDepth 100000
set_option maxHeartbeats 2000000
/-! An own exception class whose __init__ says super().__init__(f'..'), then self.f = p. -/
namespace SupX
open PySem PySem.Spec PyProof.Rows L2
/-- what the written part says of C's own __init__ at fI: its code, the cell of __class__ -/
structure InitAt (P : Program) (K : PySem.W.Frag) (C fI : Addr) (qual : Str) (st : Stmt) : Prop where
  ex : ∃ (oc : Value) (od : Option Addr) (kV doc pm : Value) (an : Option Addr) (cda cc : Addr) (ct : Value) (osl : Array (Option Value)) (ccl : Value) (cdd : Option Addr) (vs : Array Value) (ccs : Array (Option Value)) (file : Str) (tf : Tok) (cl : Value) (cld : Option Addr) (csl : Array (Option Value)),
    K.lookup fI = some ⟨oc, od, .func (PySem.W.fnX "__init__" qual (defArgs st) (defBody st) (defScope st) [(("__class__" : Str), cc)] .none kV doc pm an (.ref cda) ct), osl⟩ ∧ PySem.W.codeIn K (.ref cda) qual = true ∧
    K.lookup cda = some ⟨ccl, cdd, .fields vs, ccs⟩ ∧ vs[2]? = some (.str file tf) ∧ ((P.main.file : Str) == file) = true ∧ K.lookup cc = some ⟨cl, cld, .cell (some (.ref C)), csl⟩
  init : PySem.W.findIn K (.ref C) "__init__" = some (some (.ref fI))
  ty : PySem.W.typeIn K (.ref fI) = some (.type "function")
/-- what it says of the class -/
structure ClsAt (K : PySem.W.Frag) (mg : Str → Option Value) (C : Addr) (f : Str) : Prop where
  oex : OexC K C
  own : PySem.W.mroIn K C (.ref C) = some true
  up : PySem.W.ks_superIn K C C "__init__" = some (some (.builtin "ValueError.__init__"))
  ve : PySem.W.subIn K (.ref C) (.type "ValueError") = some true
  st : PySem.W.nsIn K PySem.cStatics "thirdparty.any" = some none
  no : PySem.W.findIn K (.ref C) f = some none
  sup : mg "super" = none
/-- the scope of such a def -/
structure Sco (x : Str) (sc : Scope) : Prop where
  kind : sc.kind = .function
  co : sc.isCoroutine = false
  gen : sc.isGenerator = false
  self : sc.names.lookup ("self" : Str) = some .local
  arg : sc.names.lookup x = some .local
  sup : sc.names.lookup ("super" : Str) = some .globalImplicit
  cls : sc.names.lookup ("__class__" : Str) = some .free
  only : ∀ y ∈ sc.names, y.2 ≠ .cell ∧ (y.2 = .free → y.1 = "__class__")
  ne : x ≠ ("self" : Str)
/-- the context of its body -/
def cx1 (P : Program) (w : World) (K : PySem.W.Frag) (mg : Str → Option Value) (base : Heap) (x qual : Str) (sc : Scope) (f : Addr) (cd : Value) (cc : Addr) (A : Around) (outer : List Env) (s : Shared) (H : Hp) (xe : Value → Shared → Prop) : Cx where
  prog := P
  w := w
  K := K
  mg := mg
  base := base
  A := A.deeper (PySem.W.ksEnv qual sc s.heap.objs.size f cd cc)
  N := [("self" : Str), x]
  s_0 := s
  H_0 := H
  env := PySem.W.ksEnv qual sc s.heap.objs.size f cd cc
  outer := outer
  stack := PySem.W.ksEnv qual sc s.heap.objs.size f cd cc :: outer
  ex := []
  fn := fun _ => false
  calm := true
  pn := []
  xe := xe
section
variable {P : Program} {w : World} {K : PySem.W.Frag} {mg : Str → Option Value} {base : Heap} {x qual : Str} {sc : Scope} {f cc : Addr} {cd : Value} {A : Around} {outer : List Env} {s : Shared} {H : Hp} {xe : Value → Shared → Prop} {k : Nat}
theorem inv1 (S : Sco x sc) (hr : Room k A) (e0 : Env0 P w K mg base A outer s H) {oc : Value} {od : Option Addr} {D : Addr} {osl : Array (Option Value)} (hcc : K.lookup cc = some ⟨oc, od, .cell (some (.ref D)), osl⟩) {h : Heap} {tk : Nat} {v1 v2 : V} {u1 u2 : Value} (r1 : RelV v1 u1) (r2 : RelV v2 u2)
    (hns : h.Ns s.heap.objs.size (fun y => ([("self" : Str), x].zip [u1, u2]).reverse.lookup y)) (hk : ∀ b o, s.heap.get? b = some o → h.get? b = some o) :
    Inv (cx1 P w K mg base x qual sc f cd cc A outer s H xe) [] [some v1, some v2] H { s with heap := h, toks := tk } := by
  have KX : K.In s.heap := e0.mod.kin.keeps fun b o e => (e0.bs b o e).1
  have lk1 : ∀ y c, ([(("__class__" : Str), cc)] : List (Str × Addr)).lookup y = some c → y = "__class__" ∧ c = cc := fun y c h => by
    by_cases e : y = "__class__"
    · subst e
      exact ⟨rfl, by simpa using h.symm⟩
    · have : (y == ("__class__" : Str)) = false := by simpa using e
      simp [List.lookup, this] at h
  have Hc : H cc = none := (e0.bs cc _ (e0.mod.kin _ _ hcc)).2
  have memN : ∀ {y : Str} {z : NameKind}, sc.names.lookup y = some z → (y, z) ∈ sc.names := fun {y z} e => PySem.mem_of_lookup e
  refine ⟨⟨e0.mod, S.kind, rfl, rfl, Nat.le_refl _, fun y z c h1 h2 => (lk1 y c h1).1.trans (lk1 z c h2).1.symm, fun y hy => ?_, fun y c h _ => Bool.noConfusion (show false = true from h), fun _ => hr.hd, Around.frames_deeper e0.frames, .inr ⟨rfl, rfl⟩, fun b z => (by cases z), e0.bs, e0.bsz, fun b _ _ z => (by cases z), fun b z => (by cases z), e0.funs, e0.frf⟩,
    rfl, e0.bare, Un.kept hk, ⟨_, hns, fun i y v h1 h2 h3 => ?_⟩, fun y c h => ?_, e0.hok.fresh (Nat.le_refl _), fun y c h => ?_, fun p hp => (by cases hp), e0.hok.kept hk, rfl⟩
  · rcases hy with hy | hy
    · exact absurd rfl (S.only _ (memN hy)).1
    · have e := (S.only _ (memN hy)).2 rfl
      exact ⟨cc, by show ([(("__class__" : Str), cc)] : List (Str × Addr)).lookup y = some cc; rw [show y = "__class__" from e]; rfl⟩
  · match i, h1, h2 with
    | 0, h1, h2 =>
      cases h1
      cases h2
      refine ⟨u1, r1, .inl ⟨S.self, ?_⟩⟩
      have ne : (("self" : Str) == x) = false := by simpa using (fun z => S.ne z.symm : ("self" : Str) ≠ x)
      simp [List.lookup, ne]
    | 1, h1, h2 =>
      cases h1
      cases h2
      refine ⟨u2, r2, .inl ⟨S.arg, ?_⟩⟩
      simp [List.lookup]
    | i + 2, h1, h2 => simp at h2
  · obtain ⟨rfl, rfl⟩ := lk1 y c h
    exact ⟨_, _, hk _ _ (KX _ _ hcc), rfl⟩
  · obtain ⟨rfl, rfl⟩ := lk1 y c h
    exact Hc
end
end SupX
namespace SupX
open PySem PySem.Spec PyProof.Rows L2
section
variable {X : Cx} {pins : List (Addr × Obj)} {σ : L2.St} {H : Hp} {s : Shared} {a C u : Addr}
/-- the bound ValueError.__init__, called: nothing of it is told -/
theorem mw_call {A : Around} {E : Value → Shared → Prop} {us : List Value} {Q : Value → Shared → Prop} (T : OexC X.K C) (I : Inv X pins σ H s) (hu : s.heap.get? u = some (PySem.W.kxs_mw "ValueError.__init__" a)) (e : H a = some (exo a C none)) (hz : us.length ≤ sizeLine)
    (h : ∀ s', Inv X pins σ H s' → Q .none s') : wpAny (model X.prog X.w) A (call (.ref u) us) Q E s := by
  obtain ⟨n0, q0, N0, bs0, bm0, sn0, su0, ab0, col0, dd0, j0, j1, j2, j3, j5, hK, hm⟩ := T.cls
  obtain ⟨t1, ho⟩ := exo_at I.hok e
  obtain ⟨hp, gs, dr, tk, os⟩ := s
  refine wpAny_call (codeAny_of_tree (by
    show wpAny _ A.in1 (callAny (.ref u) ⟨us, []⟩) _ _ _
    simp only [callAny]
    refine wpAny_bind (wpAny_load hu ?_)
    simp only [PySem.W.kxs_mw]
    refine PySem.W.KFB.if_so (by decide) ?_
    refine wpAny_bind (PySem.W.check_bound_init PySem.F.excBase_ValueError.toExcCallFacts (I.kIn _ _ hK) ho rfl (wpAny_bind (wpAny_pure (wpAny_pure ?_))))
    refine ⟨plainId_quiet PySem.F.excBase_ValueError.init.plain _, codeAny_builtin PySem.F.excBase_ValueError.initEntry ?_⟩
    refine PySem.W.exc_init_tree (t0 := t1) (cls := .ref C) (c2 := .none) (dv := none) (c3 := .none) (b4 := .bool false) ho hz fun h' k hx _ => ?_
    have J := I.write (x := a) (e := a) (t' := tk) (o := exo a C none) (by rw [e]; trivial) (.inl rfl) k ⟨_, hx⟩ (exo_ok hx)
    have same : upd H a (exo a C none) = H := funext fun b => by
      by_cases hb : b = a
      · rw [hb, upd_same, e]
      · exact upd_ne hb
    rw [same] at J
    exact h _ J))
end
/-- a number whose text is short -/
def Sm (v : Int) : Prop := v.natAbs.log2 < 1920 ∧ (toString v : Str).length ≤ 1000
/-- the text of the error -/
def tTxt : TE := fun σ H Q => ∃ v : Int, σ[1]? = some (some (.int v)) ∧ Sm v ∧ ∀ z : Str, Q (.str z) H
def spI (C : Addr) (f : Str) : Sp := fun vs H Q _ => ∃ (a : Addr) (v : Int), vs = [.ref a, .int v] ∧ Sm v ∧ H a = some (exo a C none) ∧ ∀ dx, H dx = none → dx ≠ a → Q .non (upd (upd H dx (exd dx [(f, .int v)])) a (exo a C (some dx)))
section
variable {P : Program} {w : World} {K : PySem.W.Frag} {mg : Str → Option Value} {base : Heap} {x f qual : Str} {st : Stmt} {C fI : Addr} {CX : CXT} {jv : List Expr} {p0 p1 p2 p3 p4 p5 p6 p7 p8 p9 : Pos}
theorem ok_init (M : InitAt P K C fI qual st) (T : ClsAt K mg C f) (S : Sco x (defScope st)) (hpar : ∃ ar, ((defArgs st).posonlyargs ++ (defArgs st).args).head? = some ar ∧ ar.arg = "self")
    (hbody : defBody st = [.Expr (.Call (.Attribute (.Call (.Name "super" p0) [] [] p1) "__init__" p2) [.JoinedStr jv p9] [] p3) p4, .Assign [.Attribute (.Name "self" p5) f p6] (.Name x p7) p8])
    (he : ∀ Y : Cx, Y.N = [("self" : Str), x] → Y.env.scope = defScope st → PE Y (.JoinedStr jv p9) tTxt)
    (hcall : ∀ env : Env, ∃ pl : Sem Bool, eval (.Call (.Attribute (.Call (.Name "super" p0) [] [] p1) "__init__" p2) [.JoinedStr jv p9] [] p3) env = (do
      let o0 ← attributeBase (.Call (.Name "super" p0) [] [] p1) "__init__" env (eval (.Call (.Name "super" p0) [] [] p1) env)
      standAt p2.atName
      let (g, first) ← holding [o0] (getMethod o0 "__init__" pl)
      callWith p3 g first (backTo p3 (starEach [.JoinedStr jv p9] env)) []))
    (htop : (P.main.scope.names.lookup ("super" : Str)).isSome = false) (hx : (x == ("__debug__" : Str)) = false) (hx2 : (x == ("__classdict__" : Str)) = false)
    (hbind : ∀ (kV doc pm : Value) (an : Option Addr) (cl : List (Str × Addr)) (cdv ct : Value) (us : List Value), us.length = 2 → bindArgs (PySem.W.fnX "__init__" qual (defArgs st) (defBody st) (defScope st) cl .none kV doc pm an cdv ct) ⟨us, []⟩ = pure ([("self" : Str), x].zip us)) :
    ∃ fd, FnOk P w K mg base CX 1 fI fd [("self" : Str), x] (spI C f) ∧ Binds K fd [("self" : Str), x] [] := by
  obtain ⟨oc, od, kV, doc, pm, an, cda, cc, ct, osl, ccl, cdd, vs0, ccs, file, tf, cl, cld, csl, lk, hcd, lc, hv2, hfile, lcc⟩ := M.ex
  refine ⟨PySem.W.fnX "__init__" qual (defArgs st) (defBody st) (defScope st) [(("__class__" : Str), cc)] .none kV doc pm an (.ref cda) ct, ⟨fun vs H Q E h => ?_, fun A outer s H args us vs Q E hr e0 hb r h => ?_⟩, fun s us X hl => ?_⟩
  · obtain ⟨a, v, rfl, _⟩ := h
    rfl
  · obtain ⟨a, v, rfl, hv, ea, k⟩ := h
    have KX : K.In s.heap := e0.mod.kin.keeps fun b o e => (e0.bs b o e).1
    obtain ⟨u1, u2, rfl⟩ : ∃ u1 u2, us = [u1, u2] := by
      cases r with
      | cons r1 r =>
        cases r with
        | cons r2 r =>
          cases r
          exact ⟨_, _, rfl⟩
    have r1 : RelV (.ref a) u1 := by cases r; assumption
    have r2 : RelV (.int v) u2 := by
      cases r with
      | cons _ r => cases r; assumption
    obtain rfl : u1 = Value.ref a := r1
    refine PySem.ks_codeAny_call_defAt (fd := PySem.W.fnX "__init__" qual (defArgs st) (defBody st) (defScope st) [(("__class__" : Str), cc)] .none kV doc pm an (.ref cda) ct) (binds := [("self" : Str), x].zip [Value.ref a, u2]) (body := defBody st) hr.depth (KX _ _ lk) rfl (e0.mod.nolimit.keeps fun b o e => (e0.bs b o e).1)
      (PySem.W.codeRec_of KX hcd) rfl hb (fun y hy => (S.only y hy).1) (fun y hy => ?_) (fun h₀ hns hk => ?_) S.co S.gen S.kind
    · have : y = (("self" : Str), Value.ref a) ∨ y = (x, u2) := by simpa using hy
      rcases this with rfl | rfl
      · exact S.self
      · exact S.arg
    · let xe : Value → Shared → Prop := fun e' s' => wpAny (model P w) (A.deeper (PySem.W.ksEnv qual (defScope st) s.heap.objs.size fI (.ref cda) cc)) (leaving (PySem.W.ksEnv qual (defScope st) s.heap.objs.size fI (.ref cda) cc) e') (fun _ s'' => CR CX outer P w H s Q E (.error e') s'') (fun e'' s'' => CR CX outer P w H s Q E (.error e'') s'') s'
      let X : Cx := cx1 P w K mg base x qual (defScope st) fI (.ref cda) cc A outer s H xe
      have I : Inv X [] [some (.ref a), some (.int v)] H { s with heap := h₀, toks := s.toks + ([("self" : Str), x].zip [Value.ref a, u2]).length } := inv1 S hr e0 lcc rfl r2 hns hk
      obtain ⟨ar, har, hself⟩ := hpar
      obtain ⟨n0, q0, N0, bs0, bm0, sn0, su0, ab0, col0, dd0, j0, j1, j2, j3, j5, hC, hm⟩ := T.oex.cls
      obtain ⟨cdC, hcd1, hcd2⟩ : ∃ cd, PySem.W.clsIn K C = some cd ∧ ∀ h : Heap, K.In h → ∃ oD, h.get? C = some oD ∧ oD.data = .cls cd :=
        ⟨_, by unfold PySem.W.clsIn; rw [hC] <;> rfl, fun h X => ⟨_, X _ _ hC, rfl⟩⟩
      obtain ⟨t1, ho⟩ := exo_at I.hok ea
      obtain ⟨oD, hD1, hD2⟩ := hcd2 _ I.kIn
      obtain ⟨mb, hb1, hb2⟩ := I.mod.blt
      have hup := T.up
      unfold PySem.W.ks_superIn at hup
      rw [hcd1] at hup
      show _root_.PySem.wpAt (model P w) (A.deeper X.env) (.func (defBody st) X.env) (execs (defBody st) X.env) _ _ _
      rw [hbody]
      obtain ⟨pl, hpl⟩ := hcall X.env
      refine PySem.ks_wpAt_execs_cons (PySem.ks_wpAt_Expr_any (PySem.ks_wpAt_MethodCall (PySem.ks_wpAt_super_base (ar := ar) S.sup S.cls (by decide) rfl (I.kIn _ _ lk) rfl har rfl (I.kIn _ _ lc) rfl hv2 hfile htop
        (PySem.W.ks_loadName_global S.kind S.sup (Calls.loadGlobal_builtin (I.mod.glob.keeps I.bk) T.sup (hb1.keeps I.bk) ((hb2 "super" (by decide)).trans (by decide +kernel)) ⟨rfl, wpAny_loadName_free S.kind S.cls rfl ⟨_, I.kIn _ _ lcc, rfl⟩ ?_⟩))) hpl) (by show interactive (PySem.W.ksEnv _ _ _ _ _ _) = false; unfold interactive; simp [Env.blockKind, S.kind]))
      rw [hself]
      refine wpAny_loadName_local (v := .ref a) S.kind S.self hns (by simp [List.lookup, (by simpa using (fun z => S.ne z.symm : ("self" : Str) ≠ x) : (("self" : Str) == x) = false)]) ?_
      refine ks_wpAny_isType_cls hD1 hD2 ⟨rfl, ks_wpAny_call_super hD1 hD2 ho rfl (fun c z => by cases z) (PySem.W.looks_mroIn I.kIn T.own) fun h1 e1 k1 => ?_⟩
      have I1 : Inv X [] [some (.ref a), some (.int v)] H ⟨h1, s.gens, s.drawn, s.toks + ([("self" : Str), x].zip [Value.ref a, u2]).length, s.os⟩ := I.kept (t' := _) k1
      obtain ⟨t2, ho1⟩ := exo_at I1.hok ea
      have at1 : PySem.W.InstAt h1 a { cls := .ref C, dict := none, data := .fields #[.ref t2, .none, .none, .none, .bool false, .none] } C none := ⟨ho1, rfl, rfl, trivial⟩
      refine PySem.W.kxs_getMethod PySem.W.kxs_ValueError e1 (PySem.W.looks_opaque I1.kIn T.st) (l₀ := cdC.mro) (fun A' Q' E' s' k' q' => wpAny_bind ((PySem.W.looks_clsIn I1.kIn hcd1) A' _ E' s' k' (wpAny_pure q'))) rfl I1.kIn hup (at1.type.andThen (PySem.W.looks_subIn I1.kIn T.ve)) (PySem.W.ks_ne I1.kIn at1 hcd1) (by decide) ?_
      have hu : (h1.push (PySem.W.kxs_mw "ValueError.__init__" a)).get? h1.objs.size = some (PySem.W.kxs_mw "ValueError.__init__" a) := Heap.get?_push_size _ rfl
      have I2 : Inv X [] [some (.ref a), some (.int v)] H ⟨h1.push (PySem.W.kxs_mw "ValueError.__init__" a), s.gens, s.drawn, s.toks + ([("self" : Str), x].zip [Value.ref a, u2]).length + 1, s.os⟩ := I1.kept (t' := _) fun b o e => Heap.get?_push_of_some _ e
      have fp := I1.fpOk (H' := H) (Nat.le_refl _) (I1.hok.fresh (Nat.le_refl _))
      have I3 : Inv X [(h1.objs.size, PySem.W.kxs_mw "ValueError.__init__" a)] [some (.ref a), some (.int v)] H ⟨h1.push (PySem.W.kxs_mw "ValueError.__init__" a), s.gens, s.drawn, s.toks + ([("self" : Str), x].zip [Value.ref a, u2]).length + 1, s.os⟩ := I2.pins_of fun p hp => by
        have e : p = (h1.objs.size, PySem.W.kxs_mw "ValueError.__init__" a) := by simpa using hp
        subst e
        exact ⟨hu, fp.1, fp.2.1, fp.2.2.1, fun v z => by cases z⟩
      have hargs := (pa_cons (he X rfl rfl) pa_nil (X := X)).run p3 _ _ _ H (fun vs G => G = H ∧ ∃ z : Str, vs = [.str z]) I3 ⟨v, rfl, hv, fun z => ⟨rfl, z, rfl⟩⟩
      show wpAny (model P w) (A.deeper X.env) (callWith p3 (.ref h1.objs.size) [] (backTo p3 (starEach [.JoinedStr jv p9] X.env)) []) _ _ _
      refine PySem.W.kxs_callWith (i := "ValueError.__init__") (x := a) rfl (Calls.evalArgs_plain (thn hargs fun us s3 ⟨ws, G, I4, r4, eG, z, ez⟩ => ?_))
      subst eG ez
      refine ⟨(I4.pin _ (List.mem_append_right _ List.mem_cons_self)).1, mw_call T.oex I4 (I4.pin _ (List.mem_append_right _ List.mem_cons_self)).1 ea (by show us.length ≤ sizeLine; rw [← Paired.length r4]; exact (by decide : 1 ≤ sizeLine)) fun s4 J => ?_⟩
      refine PySem.wpAt_of_wpAny (thn ((pss_one (ps_ost (pe_var (i := 0) rfl (.inl S.self)) (pe_var (i := 1) rfl (.inl S.arg) hx hx2))).run _ s4 _ _ { nx := fun _ G => Q .non G, rt := Q, bk := fun _ _ => False, ct := fun _ _ => False } J
        ⟨_, rfl, _, rfl, a, C, rfl, T.oex, T.no, .inl ⟨ea, fun dx n ne => k dx n ne⟩⟩) fun fl s5 q => ?_)
      match fl, q with
      | .next, ⟨σ', G, J5, q⟩ => exact ⟨V.non, G, J5.os, J5.bare, J5.base, J5.hok, rfl, q⟩
      | .ret u, ⟨v5, σ', G, J5, r5, q⟩ => exact ⟨v5, G, J5.os, J5.bare, J5.base, J5.hok, r5, q⟩
      | .brk, ⟨_, _, _, q⟩ => exact q.elim
      | .cont, ⟨_, _, _, q⟩ => exact q.elim
  · have hl2 : us.length = 2 := by rw [List.append_nil] at hl; exact hl
    rw [List.append_nil]
    exact BindsTo.of_eq (hbind _ _ _ _ _ _ _ us hl2)
end
end SupX

set_option Elab.async false
set_option linter.all false
set_option maxRecDepth 100000
set_option maxHeartbeats 2000000
namespace SupX
open PySem PySem.Spec PyProof.Rows L2
/-! ### a, .., *rest = a tuple: the star last -/
section
variable {prog : Program} {w : World} {A : Around} {E : Value → Shared → Prop} {s : Shared}
theorem star_items {l : Addr} {its : Array Value} {i : Nat} {Q : List Value → Shared → Prop} (ht : IsTup s.heap l its) (hh : A.handled = none) (hi : i ≤ its.size) (hz : its.size ≤ 1000)
    (hQ : ∀ (h' : Heap) (tk : Nat), (∀ b o, s.heap.get? b = some o → h'.get? b = some o) → Q (its.toList.take i ++ [.ref h'.objs.size] ++ []) { s with heap := h'.push { cls := .type "list", data := .seq (its.toList.drop i).toArray }, toks := tk }) :
    wpAny (model prog w) A (unpackItems (.ref l) (i + 1) (some i)) Q E s := by
  have ne : l ≠ s.heap.objs.size := by obtain ⟨o, e, _⟩ := ht; exact Nat.ne_of_lt (Heap.lt_size e)
  unfold unpackItems notIterableAtAll
  refine wpAny_bind (wpAny_bind (wpAny_specialOf ht.typeIs slot_tuple_iter.lookup (wpAny_pure ?_)))
  simp only [Bool.false_eq_true, if_false]
  refine wpAny_bind (wpAny_holding (iter_tuple ht (wpAny_bind (wpAny_holding (draw_tuple ne i 0 _ _ ⟨_, Heap.get?_push_size _ rfl, rfl, rfl⟩ (ht.push _) (by omega) fun h1 it1 sb1 => ?_)))))
  have t1 : IsTup h1 l its := (ht.push _).extBut sb1.extBut ne
  rw [Nat.zero_add] at it1
  have l1 : s.heap.objs.size < h1.objs.size := by obtain ⟨o, e, _⟩ := it1; exact Heap.lt_size e
  have l2 : l < h1.objs.size := by obtain ⟨o, e, _⟩ := t1; exact Heap.lt_size e
  have len1 : (its.toList.take i).length = i := by rw [List.length_take, Array.length_toList]; omega
  have len2 : (its.toList.drop i).length = its.size - i := by rw [List.length_drop, Array.length_toList]
  rw [List.drop_zero, if_neg (show ¬ ((its.toList.take i).length < i) by omega)]
  refine wpAny_bind (wpAny_holding (PySem.W.kun_collect (s := { s with heap := h1 }) (k := i) (T := "tuple_iterator") (.inr (.inr (.inr rfl))) (Walks.tuple (A := A.in1) hh s.heap.objs.size l ne its) (fun j u z => z.1.typeIs) hi ⟨it1, t1⟩ l1 l2 (fun h2 tk k2 => ?_) (by rw [sizeLine_eq]; omega)))
  have z0 : i + 1 - 1 - i = 0 := by omega
  rw [if_neg (show ¬ ((its.toList.drop i).length < i + 1 - 1 - i) by omega)]
  simp only [z0, Nat.sub_zero, List.take_length, List.drop_length]
  refine wpAny_bind (wpAny_newList (wpAny_pure (hQ h2 tk fun b o e => ?_)) (by rw [sizeLine_eq]; omega))
  exact k2 b o (Nat.ne_of_lt (Heap.lt_size e)) (sb1.extBut b o (Nat.ne_of_lt (Heap.lt_size e)) (Heap.get?_push_of_some _ e))
end
section
variable {X : Cx} {pos : Pos}
/-- (a, .., *rest), n ahead of the star -/
def gStar (K : PySem.W.Frag) (n : Nat) (t : TGs) : TG := fun v σ H Q => ∃ a xs, v = .ref a ∧ SqT K H a xs ∧ n ≤ xs.length ∧ xs.length ≤ 1000 ∧ ∀ D, H D = none → t (xs.take n ++ [.ref D] ++ []) σ (upd H D (.lst (xs.drop n))) Q
theorem pgs_star {e : Expr} {p : Pos} {t : TG} (h1 : PG X e t) (hs : (assignEach [.Starred e p] X.env).map (·.2) = [assign e X.env] := by rfl) : PGs X [.Starred e p] (gCons t gNil) := by
  refine ⟨fun pins s σ H vs us Q I r h => ?_⟩
  obtain ⟨v, vr, e1, h⟩ := h
  subst e1
  cases r with
  | cons r rr =>
    rw [hs]
    refine assignInOrder_cons (thn (h1.run pins s σ H _ _ _ I r h) fun _ s1 ⟨σ1, H1, I1, q1⟩ => ?_)
    exact (pgs_nil (X := X)).run pins s1 σ1 H1 _ _ Q I1 rr q1
theorem pg_star {es : List Expr} {k : Nat} {t : TGs} {n : Nat} (hc : X.calm = true) (h : PGs X es t) (hn : (assignEach es X.env).length = n + 1 := by rfl) (hst : (assignEach es X.env).findIdx? (·.1) = some n := by rfl) : PG X (.Tuple es k pos) (gStar X.K n t) := by
  refine ⟨fun pins s σ H v u Q I r hw => ?_⟩
  obtain ⟨a, xs, e1, hq, hl, hz, hw⟩ := hw
  subst e1
  cases r
  obtain ⟨its, rv, ht, _⟩ := I.tuple hq
  have el : xs.length = its.length := rv.length
  rw [assign_Tuple]
  refine wpAny_bind (wpAny_standAt ?_)
  unfold unpack
  rw [hn, hst]
  refine wpAny_bind (wpAny_holding (star_items ht (I.ok.hd hc) (by simp; omega) (by simp; omega) fun h' tk hk => ?_))
  have I1 : Inv X pins σ H { s with heap := h', toks := tk } := I.kept (t' := tk) hk
  have rd : Vals (xs.drop n) (its.drop n) := rv.drop n
  have I2 : Inv X pins σ (upd H h'.objs.size (.lst (xs.drop n))) { s with heap := h'.push { cls := .type "list", data := .seq (its.drop n).toArray }, toks := tk } :=
    I1.laid (t' := tk) (fun b o e => Heap.get?_push_of_some _ e) (Nat.le_refl _) (show ObjOk X.prog X.w _ _ _ (.lst (xs.drop n)) from ⟨by rw [List.length_drop, sizeLine_eq]; omega, its.drop n, 0, rd, Heap.get?_push_size _ rfl⟩)
  have e0 : its.toArray.toList = its := rfl
  show wpAny _ _ (assignInOrder _ (its.take n ++ [.ref h'.objs.size] ++ [])) _ _ { s with heap := h'.push { cls := .type "list", data := .seq (its.drop n).toArray }, toks := tk }
  exact h.run pins _ σ _ _ _ Q I2 (((rv.take n).append (.cons (show L2.RelV (V.ref h'.objs.size) (Value.ref h'.objs.size) from rfl) .nil)).append .nil) (hw _ (I1.hok.fresh (Nat.le_refl _)))
end
end SupX
namespace SupX
open PySem PySem.Spec PyProof.Rows L2
/-! ### raise C(e): C's own __init__ says super().__init__(f'..') and stores e -/
def tMkS (C : Addr) (f : Str) (te : TE) : L2.St → Hp → XK → Prop := fun σ H Q => te σ H fun y H1 => ∃ n : Int, y = .int n ∧ Sm n ∧ ∀ d, H1 d = none → Q (.ref C) (some d) (upd H1 d (.xd [(f, .int n)]))
theorem heap_back {H : Hp} {a d : Addr} {fs : List (Str × V)} {o1 o2 o3 : HO} (ha : H a = none) (ne : d ≠ a) : upd (del (upd (upd (upd H a o1) d o2) a o3) a) d (.xd fs) = upd H d (.xd fs) := funext fun b => by
  by_cases hd : b = d
  · rw [hd, upd_same, upd_same]
  · rw [upd_ne hd, upd_ne hd]
    by_cases hb : b = a
    · rw [hb, del_same, ha]
    · rw [del_ne hb, upd_ne hb, upd_ne hd, upd_ne hb]
theorem pmk_sup {X : Cx} {x x0 f qual : Str} {C fI : Addr} {fd : FuncData} {st : Stmt} {e : Expr} {te : TE} {p pos : Pos} (T : ClsAt X.K X.mg C f) (M : InitAt X.prog X.K C fI qual st) (F1 : FnOk X.prog X.w X.K X.mg X.base CX0 1 fI fd [("self" : Str), x0] (spI C f)) (hb : L2.Binds X.K fd [("self" : Str), x0] []) (hr : Room 2 X.A)
    (hg : Gl X x) (hm : X.mg x = some (.ref C)) (he : PE X e te) (hdb : (x == ("__debug__" : Str)) = false := by decide) (hst : starEach [e] X.env = (false, eval e X.env) :: starEach [] X.env := by rfl) (hpl : (backTo pos (starEach [] X.env)).any (·.1) = false := by rfl) :
    L2N.PMk X (.Call (.Name x p) [e] [] pos) (tMkS C f te) := by
  intro pins s σ H Q I h
  obtain ⟨n0, q0, N0, bs0, bm0, sn0, su0, ab0, col0, dd0, j0, j1, j2, j3, j5, hC, hbm⟩ := T.oex.cls
  refine wpAny_Call_Name_kw (ld_glob I hg hm (PySem.W.callWith_K (h₀ := X.base) I.ok.mod.kin T.oex.kC (thn ((pa_cons he pa_nil hst).run pos pins s σ H (fun vs H1 => match vs with | [y] => (∃ n : Int, y = .int n ∧ Sm n ∧ ∀ d, H1 d = none → Q (.ref C) (some d) (upd H1 d (.xd [(f, .int n)]))) | _ => False) I h) fun us s1 hq => ?_) hst hpl) hdb)
  obtain ⟨vs, H1, I1, r1, q0⟩ := hq
  obtain ⟨n, ev, hn, q1⟩ : ∃ n : Int, vs = [.int n] ∧ Sm n ∧ ∀ d, H1 d = none → Q (.ref C) (some d) (upd H1 d (.xd [(f, .int n)])) := by
    match vs, q0 with
    | [y], ⟨n, e, q⟩ => exact ⟨n, by rw [e], q⟩
  subst ev
  refine ⟨I1.kIn, ?_⟩
  show wpAny _ _ (call (.ref C) us) _ _ _
  obtain ⟨hp, g, dr, tk, os⟩ := s1
  have hus : us.length = 1 := by rw [← r1.length]; rfl
  have h1 : H1 (hp.objs.size + 1) = none := I1.hok.fresh (Nat.le_succ _)
  have grow : ∀ b o, hp.get? b = some o → ((hp.push (PySem.W.kdv_tup us)).push (PySem.HandSPX.excO C hp.objs.size)).get? b = some o := fun b o z => Heap.get?_push_of_some _ (Heap.get?_push_of_some _ z)
  have at1 : ((hp.push (PySem.W.kdv_tup us)).push (PySem.HandSPX.excO C hp.objs.size)).get? (hp.objs.size + 1) = some (PySem.HandSPX.excO C hp.objs.size) := by heap_get
  have I2 : Inv X pins σ (upd H1 (hp.objs.size + 1) (exo (hp.objs.size + 1) C none)) ⟨(hp.push (PySem.W.kdv_tup us)).push (PySem.HandSPX.excO C hp.objs.size), g, dr, tk, os⟩ := I1.laid (o := exo (hp.objs.size + 1) C none) (t' := tk) grow (Nat.le_succ _) (exo_ok at1)
  have r2 : Vals (V.ref (hp.objs.size + 1) :: [V.int n]) (Value.ref (hp.objs.size + 1) :: us) := .cons rfl r1
  have b2 := hb _ (Value.ref (hp.objs.size + 1) :: us) I2.kIn (by rw [List.append_nil, List.length_cons, hus]; rfl)
  rw [List.append_nil] at b2
  have big : us.length ≤ sizeLine := by rw [hus]; decide
  refine wpAny_call (PySem.HandSPX.call_own PySem.F.excBase_ValueError (fun Y => PySem.HandSPX.refsVE_contains Y bm0 hbm) (I1.kIn _ _ hC) (PySem.W.looks_findIn I1.kIn M.init) (fun o => PySem.W.bind_fn I1.kIn o M.ty) big
    (codeAny_mono (F1.run _ X.stack _ _ ⟨Value.ref (hp.objs.size + 1) :: us, []⟩ (Value.ref (hp.objs.size + 1) :: us) [V.ref (hp.objs.size + 1), V.int n]
      (fun v H2 => v = .non ∧ ∃ d, H1 d = none ∧ d ≠ hp.objs.size + 1 ∧ H2 = upd (upd (upd H1 (hp.objs.size + 1) (exo (hp.objs.size + 1) C none)) d (exd d [(f, .int n)])) (hp.objs.size + 1) (exo (hp.objs.size + 1) C (some d))) (fun _ _ _ => False) (hr.make C us []) (I2.env0.make C us []) b2 r2
      ⟨_, n, rfl, hn, upd_same, fun d hd ne => ⟨rfl, d, by rw [upd_ne ne] at hd; exact hd, ne, rfl⟩⟩) fun r s' hq => ?_))
  cases r with
  | error er => exact False.elim hq
  | ok fl =>
    cases fl with
    | ret u =>
      obtain ⟨v, H2, os2, bare2, un2, hok2, rv, ev, d, hd, ne, eH⟩ := hq
      subst ev eH
      obtain ⟨h2, g2, d2, t2, os'⟩ := s'
      obtain ⟨t0, G, J, kG, ge, hoe, _⟩ := mk_end0 (a := hp.objs.size + 1) (C := C) (d := d) (d2 := d2) (t2 := t2) (fs := [(f, .int n)]) I1 (Nat.le_succ _) grow un2 hok2 os2 bare2 upd_same (by rw [upd_ne ne, upd_same]) hd
      rw [heap_back h1 ne] at J
      have na : upd H1 d (.xd [(f, .int n)]) (hp.objs.size + 1) = none := by rw [upd_ne ne.symm]; exact h1
      exact ⟨rv, hp.objs.size + 1, _, _, ⟨G, g2, d2, t2, os'⟩, _, .ref C, some d, rfl, J, kG, ge, hoe, ⟨rfl, rfl, fun vs hv => (by cases hv; rfl)⟩, rfl, rfl, na, rfl, bare2, raises_own T.oex.exC T.oex.tyC, q1 d hd⟩
    | next => exact False.elim hq
    | brk => exact False.elim hq
    | cont => exact False.elim hq
end SupX

set_option Elab.async false
set_option linter.all false
set_option maxRecDepth 100000
set_option maxHeartbeats 2000000
/-! ### enumerate of a list or a tuple -/
namespace SupX
open PySem PySem.Spec PyProof.Rows L2 K5
theorem en_new {v : Value} {o : Obj} {Hh : Heap → Prop} (B : Begins v o Hh) :
    Meets (Builtin.«enumerate.__new__» ⟨[.type "enumerate", v], []⟩) (fun _ R s => Hh s.heap ∧
      R (.ok (.ret (.ref (s.heap.push o).objs.size))) { s with heap := (s.heap.push o).push { cls := .type "enumerate", data := .fields #[.none, .bool false, .ref s.heap.objs.size, rawInt 0, .none, .none] } }) :=
  .of_wp fun prog w A R s h => by
    obtain ⟨hp, gs, dr, tk, os⟩ := s
    obtain ⟨hh, h⟩ := h
    have hsub := sub_enumerate
    have it0 : ∀ {A' : Around} {E : Value → Shared → Prop} {Q : Value → Shared → Prop}, Q (.ref hp.objs.size) ⟨hp.push o, gs, dr, tk, os⟩ → wpAny (model prog w) A' (pyIter v) Q E ⟨hp, gs, dr, tk, os⟩ := fun q => B.iter prog w _ _ ⟨hp, gs, dr, tk, os⟩ _ hh q
    wp_walk using it0
    refine wpAny_stack_any fun st => wpAny_pure ?_
    split
    · rename_i c _ _ _ _ _
      cases (c == Value.type "enumerate") <;> (wp_walk using it0) <;> exact ⟨_, rfl, h⟩
    · wp_walk using it0
      exact ⟨_, rfl, h⟩
theorem en_call {prog : Program} {w : World} {A : Around} {E : Value → Shared → Prop} {s : Shared} {v : Value} {o : Obj} {Hh : Heap → Prop} {Q : Value → Shared → Prop} (B : Begins v o Hh) (hh : Hh s.heap)
    (h : ∀ h', IsEnum h' (s.heap.objs.size + 1) s.heap.objs.size 0 .none → h'.get? s.heap.objs.size = some o → (∀ b u, s.heap.get? b = some u → h'.get? b = some u) → Q (.ref (s.heap.objs.size + 1)) { s with heap := h' }) :
    wpAny (model prog w) A (call (.type "enumerate") [v]) Q E s := by
  refine callType_new F.called_enumerate (by decide) (F.typeCall_enumerate_1 _) (F.newCall_enumerate_1 _) (fun obj => F.args_object_init_2 obj _) F.entry_enumerate_new (en_new B) ⟨hh, ?_⟩
  have z1 : (s.heap.push o).objs.size = s.heap.objs.size + 1 := Heap.size_push ..
  show _ ∧ _
  rw [z1]
  have en : IsEnum ((s.heap.push o).push { cls := .type "enumerate", data := .fields #[.none, .bool false, .ref s.heap.objs.size, rawInt 0, .none, .none] }) (s.heap.objs.size + 1) s.heap.objs.size 0 .none := by
    have q := Heap.get?_push_size (s.heap.push o) (o := { cls := .type "enumerate", data := .fields #[.none, .bool false, .ref s.heap.objs.size, rawInt 0, .none, .none] }) rfl
    rw [z1] at q
    exact q
  exact ⟨⟨_, en, rfl⟩, h _ en (Heap.get?_push_of_some _ (Heap.get?_push_size _ B.free)) fun b u x => Heap.get?_push_of_some _ (Heap.get?_push_of_some _ x)⟩
/-- one turn after another: the number and the item in a new pair -/
def ItE (sq : Hp → Prop) (ys : List V) : It where
  go := fun i H => sq H ∧ i < ys.length
  yld := fun i H v G => ∃ T y, v = .ref T ∧ H T = none ∧ G = upd H T (.tup [.int (i : Nat), y]) ∧ ys[i]? = some y
  stop := fun i H => sq H ∧ i = ys.length
theorem turnE {P : Program} {w : World} {K : PySem.W.Frag} {elts : List Expr} {kk : Nat} {tpos : Pos} {b e i2 : Addr} {ys : List V} {sq : Hp → Prop} (D : Snd P w i2 b) (ne : e ≠ i2) (nb : e ≠ b)
    (rd : ∀ {X : Cx} {pins : List (Addr × Obj)} {σ : L2.St} {H : Hp} {s : Shared}, X.K = K → Inv X pins σ H s → sq H → ∃ its : List Value, Vals ys its ∧ D.own s.heap its.toArray) :
    Turn P w K (.Tuple elts kk tpos) (ItE sq ys) [e, i2] e (fun i h => (∃ old, IsEnum h e i2 ((i : Nat) : Int) old) ∧ D.st i h) where
  mem := List.mem_cons_self
  obj := fun i h ⟨⟨old, he⟩, h2⟩ c hc => by
    simp only [List.mem_cons, List.not_mem_nil, or_false] at hc
    rcases hc with rfl | rfl
    · exact ⟨_, he, nofun⟩
    · exact D.obj i h h2
  keep := fun i h g ⟨⟨old, he⟩, h2⟩ k => ⟨⟨old, k _ (by simp) _ he⟩, D.keep i h g h2 fun o q => k _ (by simp) o q⟩
  item := by
    intro X hP hw hK hc i pins s σ H E I hf ⟨⟨old, he⟩, h2⟩ ⟨qy, ly⟩
    subst hP hw
    obtain ⟨jb, rb, pb⟩ := rd hK I qy
    have lb := rb.length
    have hel : e < s.heap.objs.size := Heap.lt_size he
    refine wpAny_pyNext_enum_itemD (D.draws X.A.in1 jb.toArray (I.ok.hd hc)) he ⟨h2, pb⟩ (by simp; omega) ne (by simp [ne, nb]) fun u g tk eu ho st' hT hz hk => ?_
    obtain ⟨st2, own2⟩ := st'
    refine ⟨_, rfl, wpAny_letOwnedTupleGo_enum (s := { s with heap := g, toks := tk + 1 }) ho fun g' he' sb => ?_⟩
    have eu' : jb[i]? = some u := by simpa using eu
    obtain ⟨y, hy, ry⟩ : ∃ y, ys[i]? = some y ∧ RelV y u := by
      have li : i < ys.length := ly
      obtain ⟨u2, h1, h3⟩ := rb.get (List.getElem?_eq_getElem li)
      rw [h1] at eu'
      cases eu'
      exact ⟨_, List.getElem?_eq_getElem li, h3⟩
    have hT2 : g'.get? s.heap.objs.size = some { cls := .type "tuple", data := .seq #[.int i tk, u] } := (sb.2 _ (Nat.ne_of_gt hel)).trans hT
    have new : ObjOk X.prog X.w (upd H s.heap.objs.size (.tup [.int (i : Nat), y])) g' s.heap.objs.size (.tup [.int (i : Nat), y]) := ⟨by show 2 ≤ sizeLine; decide, [.int i tk, u], .cons ⟨_, rfl⟩ (.cons ry .nil), ⟨_, hT2, rfl, _, rfl⟩⟩
    have I1 : Inv X pins σ (upd H s.heap.objs.size (.tup [.int (i : Nat), y])) { s with heap := g', toks := tk + 1 } :=
      I.turnedNew (ch := [e, i2]) (fun c o hb q => (sb.2 c (fun z => hb (by simp [z]))).trans (hk c o (fun z => hb (by simp [z])) (fun z => hb (by simp [z])) q)) hf (Nat.le_refl _) new
    refine ⟨.ref s.heap.objs.size, _, I1, rfl, ⟨_, y, rfl, I.hok.fresh (Nat.le_refl _), rfl, hy⟩, ⟨⟨u, ?_⟩, D.keep _ _ _ st2 fun o q => (sb.2 i2 (Ne.symm ne)).trans q⟩, fun c hb => ?_⟩
    · rw [show ((i + 1 : Nat) : Int) = (i : Int) + 1 by omega]
      exact he'
    · have lc : c < s.heap.objs.size := by
        simp only [List.mem_cons, List.not_mem_nil, or_false] at hb
        rcases hb with rfl | rfl
        · exact hel
        · obtain ⟨_, q, _⟩ := D.obj i _ h2
          exact Heap.lt_size q
      rw [upd_ne (Nat.ne_of_lt lc)]
      exact (hf c hb).1
  done := by
    intro X hP hw hK hc i pins s σ H E I hf ⟨⟨old, he⟩, h2⟩ ⟨qy, ly⟩
    subst hP hw
    obtain ⟨jb, rb, pb⟩ := rd hK I qy
    have lb := rb.length
    obtain ⟨f0, f1, f2, f3, f4, f5⟩ := hf i2 (by simp)
    have en : i = jb.toArray.size := by simp; omega
    subst en
    exact wpAny_pyNext_enum_endD (D.draws X.A.in1 jb.toArray (I.ok.hd hc)) he ⟨h2, pb⟩ fun h' eb => ⟨rfl, I.turned (t' := s.toks) (fun c o hb q => eb c o hb q) f0 f1 f3 f4 f5⟩
  self := fun A i s Q E ⟨⟨_, he⟩, _⟩ h => wpAny_pyIter_enum he h
def iEnT (K : PySem.W.Frag) (ta : TA) : TI := fun σ H R => ta σ H fun vs G => ∃ (b : Addr) (ys : List V), vs = [.ref b] ∧ ((SqL K G b ys ∧ R (ItE (fun J => SqL K J b ys) ys) G) ∨ (SqT K G b ys ∧ R (ItE (fun J => SqT K J b ys) ys) G))
theorem pi_enT {X : Cx} {e : Expr} {ta : TA} {p pos tpos : Pos} {elts : List Expr} {kk : Nat} (hg : Gl X "enumerate") (hm : X.mg "enumerate" = none) (ha : PA X [e] ta) (hs : starEach [e] X.env = [(false, eval e X.env)] := by rfl) :
    PI X (.Tuple elts kk tpos) (.Call (.Name "enumerate" p) [e] [] pos) (iEnT X.K ta) := by
  refine ⟨fun pins s σ H R I h => Call_ (ld_blt I hg hm boot_enumerate (PyProof.Rows.callWith_type1 (thn (ha.run pos pins s σ H _ I h) fun us s1 ⟨vs, G, I1, r1, b, ys, ex, q1⟩ => ?_) hs rfl))⟩
  subst ex
  cases r1 with
  | cons r rr =>
    cases rr
    cases r
    have fr : ∀ c, c ∈ [s1.heap.objs.size + 1, s1.heap.objs.size] → FpOk X pins G c := fun c hc => by
      have le : s1.heap.objs.size ≤ c := by
        simp only [List.mem_cons, List.not_mem_nil, or_false] at hc
        omega
      exact I1.fpOk le (I1.hok.fresh le)
    rcases q1 with ⟨qy, q⟩ | ⟨qy, q⟩
    · obtain ⟨jb, vb, pb, _⟩ := I1.list qy
      have lb := pb.lt
      refine en_call (begins_list b jb.toArray) pb.isList fun g he hi hk => wpAny_pyIter_enum he ?_
      refine ⟨_, _, _, _, G, rfl, I1.kept (t' := s1.toks) hk, turnE (sndL X.prog X.w s1.heap.objs.size b (Nat.ne_of_lt lb)) (Nat.succ_ne_self _) (Nat.ne_of_gt (Nat.lt_succ_of_lt lb)) (fun {Y pn τ J t} eK IY sq => ?_), ⟨⟨.none, he⟩, ⟨_, hi, rfl, rfl⟩⟩, fr, q⟩
      obtain ⟨jc, vc, pc, _⟩ := IY.list (by rw [eK]; exact sq)
      exact ⟨jc, vc, pc.isList⟩
    · obtain ⟨jb, vb, pb, _⟩ := I1.tuple qy
      have lb : b < s1.heap.objs.size := by
        obtain ⟨_, z, _⟩ := pb
        exact Heap.lt_size z
      refine en_call (begins_tuple b jb.toArray) pb fun g he hi hk => wpAny_pyIter_enum he ?_
      refine ⟨_, _, _, _, G, rfl, I1.kept (t' := s1.toks) hk, turnE (sndT X.prog X.w s1.heap.objs.size b (Nat.ne_of_lt lb)) (Nat.succ_ne_self _) (Nat.ne_of_gt (Nat.lt_succ_of_lt lb)) (fun {Y pn τ J t} eK IY sq => ?_), ⟨⟨.none, he⟩, ⟨_, hi, rfl, rfl⟩⟩, fr, q⟩
      obtain ⟨jc, vc, pc, _⟩ := IY.tuple (by rw [eK]; exact sq)
      exact ⟨jc, vc, pc⟩
/-- a loop over it -/
theorem for_enT {sq : Hp → Prop} {ys : List V} {g : TG} {tb : TS} {D : Ends} {σ : L2.St} {H : Hp} (Pv : Nat → L2.St → Hp → Prop) (h0 : Pv 0 σ H) (hq : ∀ i σ H, Pv i σ H → sq H)
    (hs : ∀ (i : Nat) (y : V) (T : Addr) (σ : L2.St) (H : Hp), ys[i]? = some y → Pv i σ H → H T = none → g (.ref T) σ (upd H T (.tup [.int (i : Nat), y])) fun σ2 H2 => tb { D with nx := Pv (i + 1), ct := Pv (i + 1), bk := D.nx } σ2 H2)
    (hd : ∀ σ H, Pv ys.length σ H → D.nx σ H) :
    ∃ W : Nat → Nat → L2.St → Hp → Prop, (∃ m, W 0 m σ H) ∧ ∀ i m σ H, W i m σ H →
      ((ItE sq ys).stop i H ∧ D.nx σ H) ∨ ((ItE sq ys).go i H ∧ ∃ N : L2.St → Hp → Prop, (∀ σ' H', N σ' H' → ∃ m', m' < m ∧ W (i + 1) m' σ' H') ∧ ∀ v H', (ItE sq ys).yld i H v H' → g v σ H' fun σ2 H2 => tb { D with nx := N, ct := N, bk := D.nx } σ2 H2) := by
  refine ⟨fun i m σ H => m = ys.length - i ∧ i ≤ ys.length ∧ Pv i σ H, ⟨_, rfl, Nat.zero_le _, h0⟩, ?_⟩
  rintro i m σ H ⟨rfl, hi, p⟩
  by_cases lt : i < ys.length
  · refine .inr ⟨⟨hq i σ H p, lt⟩, Pv (i + 1), fun σ' G p' => ⟨ys.length - (i + 1), by omega, rfl, by omega, p'⟩, fun v G yl => ?_⟩
    obtain ⟨T, y, rfl, hT, rfl, e2⟩ := yl
    exact hs i y T σ H e2 p hT
  · have e : i = ys.length := by omega
    subst e
    exact .inl ⟨⟨hq _ σ H p, rfl⟩, hd σ H p⟩
end SupX

set_option Elab.async false
set_option linter.all false
set_option maxRecDepth 100000
set_option maxHeartbeats 1000000
/-! ### data whose tuples may be the module's; xs.extend of such a tuple -/
namespace K5
open PySem PySem.Spec PyProof.Rows L2
theorem SqT.kt {K : PySem.W.Frag} {F : Addr → Prop} {H G : Hp} {a : Addr} {xs : List V} (k : Kt F H G) (h : SqT K H a xs) : SqT K G a xs := by
  rcases h with (h | ⟨o, h⟩) | h
  · exact .inl (.inl (k.tup h))
  · exact .inl (.inr ⟨o, k _ _ h (fun _ z => nomatch z) fun m => nomatch m⟩)
  · exact .inr h
def DatK (K : PySem.W.Frag) (H : Hp) : Nat → V → Nat → Nat → Prop
  | 0, _, _, _ => False
  | n + 1, v, w, z => (leafV v = true ∧ w = 1 ∧ z = 1) ∨ ∃ a xs u, v = .ref a ∧ SqT K H a xs ∧ SumD (DatK K H n) xs w u ∧ z = u + 1
theorem DatK.pos {K : PySem.W.Frag} {H : Hp} : ∀ {n : Nat} {v : V} {w z : Nat}, DatK K H n v w z → 1 ≤ z
  | 0, _, _, _, h => h.elim
  | _ + 1, _, _, _, .inl h => by omega
  | _ + 1, _, _, _, .inr ⟨a, xs, u, e, h, s, f⟩ => by omega
theorem SumD.lenK {K : PySem.W.Frag} {H : Hp} {n : Nat} : ∀ {xs : List V} {w z : Nat}, SumD (DatK K H n) xs w z → xs.length ≤ z
  | [], _, _, _ => Nat.zero_le _
  | _ :: _, _, _, ⟨x, y, a, b, p, r, e, f⟩ => by
    have h1 := p.pos
    have h2 := SumD.lenK r
    rw [List.length_cons]
    omega
theorem DatK.kt {K : PySem.W.Frag} {F : Addr → Prop} {H G : Hp} (k : Kt F H G) : ∀ {n : Nat} {v : V} {w z : Nat}, DatK K H n v w z → DatK K G n v w z
  | 0, _, _, _, h => h
  | _ + 1, _, _, _, .inl h => .inl h
  | _ + 1, _, _, _, .inr ⟨a, xs, u, e, h, s, f⟩ => .inr ⟨a, xs, u, e, SqT.kt k h, s.imp fun _ _ _ p => DatK.kt k p, f⟩
theorem DatK.up {K : PySem.W.Frag} {H : Hp} : ∀ {n : Nat} {v : V} {w z : Nat}, DatK K H n v w z → DatK K H (n + 1) v w z
  | 0, _, _, _, h => h.elim
  | _ + 1, _, _, _, .inl h => .inl h
  | _ + 1, _, _, _, .inr ⟨a, xs, u, e, h, s, f⟩ => .inr ⟨a, xs, u, e, h, s.imp fun _ _ _ p => DatK.up p, f⟩
theorem DatK.leaf {K : PySem.W.Frag} {H : Hp} {n : Nat} {v : V} (h : leafV v = true) : DatK K H (n + 1) v 1 1 := .inl ⟨h, rfl, rfl⟩
theorem SqT.ty {K : PySem.W.Frag} {H : Hp} {a : Addr} {xs : List V} (h : SqT K H a xs) : TyX K H (.ref a) (.type "tuple") := by
  rcases h with (h | ⟨o, h⟩) | ⟨o, its, n, h, c, _⟩
  · exact .base (.tup h)
  · exact .fTuple h
  · exact .kTuple h c
def rExtS (K : PySem.W.Frag) : V → List V → Hp → VK → Prop := fun x vs H Q => ∃ l b xs zs, x = .ref l ∧ vs = [.ref b] ∧ H l = some (.lst xs) ∧ SqT K H b zs ∧ xs.length + zs.length ≤ sizeLine ∧ Q .non (upd H l (.lst (xs ++ zs)))
section
variable {X : Cx}
theorem mt_extS : MtM X "list.extend" (rExtS X.K) := by
  intro pins s σ H x vs v us Q I rx rv h
  obtain ⟨l, b, xs, zs, rfl, rfl, hH, hB, hz, q⟩ := h
  cases rx
  obtain ⟨u, rfl, ru⟩ := rv.one
  cases ru
  obtain ⟨z, ja, n, r, hl, e⟩ := I.lstM hH
  obtain ⟨jb, r2, ⟨⟨oc, od, oda, osl⟩, e2, c2, m, d2⟩, _⟩ := I.tuple hB
  dsimp only at c2 d2
  subst c2 d2
  have hl2 := r2.length
  have fits : ja.toArray.size + jb.toArray.size ≤ sizeLine := by
    rw [List.size_toArray, List.size_toArray, ← hl, ← hl2]
    exact hz
  have door : ¬ (!ja.toArray.isEmpty && Builtin.List.listTooLong (ja.toArray.size + jb.toArray.size)) = true := by
    rw [notLongL fits, Bool.and_false]; exact Bool.false_ne_true
  refine call_meets F.slot_list_extend ⟨_, e, rfl⟩ F.entry_list_extend (F.args_list_extend_2 _ _) (ext_tup l ja.toArray n b jb.toArray m od osl door (by rw [List.size_toArray]; omega) (by omega)) ⟨e, e2, ?_⟩
  exact ⟨.non, _, I.lset (its' := ja ++ jb) hH e (by simp) (r.append r2) (by rw [List.length_append]; exact hz), rfl, q⟩
end
end K5

set_option Elab.async false
set_option linter.all false
set_option maxRecDepth 100000
set_option maxHeartbeats 2000000
/-! A generator expression's frame as a context of the hand layer: names and slots are the def's, its own names are forgotten at first; fp: the iterator's addresses -/
namespace GenX
open PySem PySem.Spec PyProof.Rows L2 GenW
def gexCx (X : Cx) (B : Around) (s : Shared) (H : Hp) (env : Env) (fp : List Addr) (pn : List (Addr × Obj)) : Cx :=
  { prog := X.prog, w := X.w, K := X.K, mg := X.mg, base := X.base, A := B.deeper env, N := X.N, s_0 := s, H_0 := H, env := env, outer := X.stack, stack := env :: X.stack, ex := fp,
    fn := fun _ => false, calm := true, pn := pn, xe := fun _ _ => False }
section
variable {X : Cx} {pins : List (Addr × Obj)} {σ : L2.St} {H : Hp} {s : Shared}
/-- the frame has come: nothing but «.0» stands in it -/
theorem gex_start {B : Around} {scope : Scope} {own : List (Str × Nat)} {fp : List Addr} {code it : Value} {s2 : Shared} (I : Inv X pins σ H s) (ok : BlkOk X.N X.env.scope scope own) (hN : X.N.Nodup) (hcell : ∀ y ∈ scope.names, y.2 ≠ .cell) (hfp : ∀ b ∈ fp, FpOk X pins H b ∧ b < s.heap.objs.size)
    (hd : B.handled = none) (hfr : B.frames = some X.stack) (os : s2.os = s.os) (hb : AllBare s2.gens) (kp : ∀ b o, s.heap.get? b = some o → s2.heap.get? b = some o)
    (hns : s2.heap.Ns s.heap.objs.size fun y => if y = ".0" then some it else none) :
    Inv (gexCx X B s H (genEnv scope (cloFrom X.env.cells scope.names []) s.heap.objs.size code builtinsNs X.env) fp []) [] (wipe σ (own.map (·.2))) H s2 := by
  have e0 := I.env0
  have fr : ∀ y ∈ scope.names, y.2 = .free → ∃ c, X.env.cells.lookup y.1 = some c := fun y hy e => (ok.free y hy e).elim (fun k => I.ok.has _ (.inl k)) fun k => I.ok.has _ (.inr k)
  have back : ∀ {y c}, (cloFrom X.env.cells scope.names []).lookup y = some c → X.env.cells.lookup y = some c := fun {y c} e => by
    rcases cloFrom_mem (PySem.mem_of_lookup e) with z | ⟨z1, z2⟩
    · cases z
    · obtain ⟨d, hd'⟩ := fr _ z1 rfl
      have hd' : X.env.cells.lookup y = some d := hd'
      rw [hd'] at z2
      rw [z2]
      exact hd'
  have there : ∀ {y}, scope.names.lookup y = some .free → ∃ c, (cloFrom X.env.cells scope.names []).lookup y = some c := fun {y} hl => mem_lookup (cloFrom_has (cells := X.env.cells) (acc := []) (show (y, NameKind.free) ∈ scope.names from PySem.mem_of_lookup hl))
  have bsF : ∀ b o, X.base.get? b = some o → b ∉ fp := fun b o e z => by
    obtain ⟨_, _, _, k, _⟩ := (hfp b z).1
    rcases k with k | k
    · exact I.ok.noex b o e k
    · have := Heap.lt_size (I.ok.bs b o e).1
      exact absurd (Nat.lt_of_lt_of_le this k) (Nat.lt_irrefl _)
  have fsF : ∀ b ∈ fp, b ∉ frs X.stack := fun b z hm => by
    obtain ⟨_, k1, k2, _⟩ := (hfp b z).1
    rcases List.mem_cons.mp (I.stkSub b hm) with k | k
    · exact k1 k
    · exact k2 k
  have okX : (gexCx X B s H (genEnv scope (cloFrom X.env.cells scope.names []) s.heap.objs.size code builtinsNs X.env) fp []).Ok := by
    refine ⟨e0.mod, ok.kind, I.ok.glob, rfl, Nat.le_refl _, (fun y z c a b => I.ok.inj y z c (back a) (back b)), (fun y hy => ?_), (fun y c z _ => nomatch z), (fun _ => hd), Around.frames_deeper hfr, .inr ⟨rfl, rfl⟩, (fun b z => ⟨Nat.ne_of_lt (hfp b z).2, fun y c e => (hfp b z).1.2.2.2.2.1 y c (back e)⟩), e0.bs, e0.bsz, bsF, fsF, e0.funs, e0.frf⟩
    rcases (show scope.names.lookup y = some .cell ∨ scope.names.lookup y = some .free from hy) with k | k
    · exact absurd rfl (hcell _ (PySem.mem_of_lookup k))
    · exact there k
  refine ⟨okX, os, hb, Un.kept kp, ⟨_, hns, fun i y v e1 e2 e3 => ?_⟩, fun y c e => ?_, I.hok.fresh (Nat.le_refl _), fun y c e => I.freeC y c (back e), (fun p hp => nomatch hp), I.hok.kept kp, by rw [wipe_length]; exact I.len⟩
  · obtain ⟨e2, hi⟩ := wipe_some e2
    have e1 : X.N[i]? = some y := e1
    have mine : ∀ k, scope.names.lookup y = some k → (k = .local ∨ k = .cell) → False := fun k hk hl => by
      rcases ok.own _ (PySem.mem_of_lookup hk) hl with z | z
      · obtain ⟨q, hq, eq⟩ := List.mem_map.mp z
        have eq : q.1 = y := eq
        have hx := ok.ix q hq
        rw [eq] at hx
        have e9 : i = q.2 := (List.getElem?_inj (List.getElem?_eq_some_iff.mp e1).1 hN).mp (e1.trans hx.symm)
        exact hi (List.mem_map.mpr ⟨q, hq, e9.symm⟩)
      · exact z (List.mem_of_getElem? e1)
    rcases (show Vis scope y from e3) with k | k | k
    · exact (mine _ k (.inl rfl)).elim
    · exact (mine _ k (.inr rfl)).elim
    · obtain ⟨m, hn, hl⟩ := I.loc
      have kd := ok.free _ (PySem.mem_of_lookup k) rfl
      have kd : X.env.scope.names.lookup y = some .cell ∨ X.env.scope.names.lookup y = some .free := kd
      obtain ⟨u, r, q⟩ := hl i y v e1 e2 (.inr kd)
      obtain ⟨c, hc⟩ := there k
      refine ⟨u, r, .inr ⟨.inr k, c, hc, ?_⟩⟩
      rcases q with ⟨k', _⟩ | ⟨_, c3, e', z⟩
      · have k' : X.env.scope.names.lookup y = some .local := k'
        rcases kd with k2 | k2 <;> rw [k2] at k' <;> cases k'
      · have := back hc
        rw [this] at e'
        cases e'
        exact z.keeps kp
  · obtain ⟨v, hv⟩ := I.cell y c (back e)
    exact ⟨v, hv.keeps kp⟩
end
end GenX

set_option Elab.async false
set_option linter.all false
set_option maxRecDepth 100000
set_option maxHeartbeats 2000000
namespace GenX
open PySem PySem.Spec PyProof.Rows L2 GenW
/-- its end: all is out -/
def GE (Y : Cx) (S : Addr) (Q : List V → Hp → Prop) : GenEnd := fun n _ r s => r = .ok .next ∧ ∃ ys ip σ H, n + ys.length = sizeLine ∧ GI Y S ip ys σ H s ∧ Q ys H
/-- what the turns do: ys is out ahead of turn i -/
def Turns (J : It) (g : TG) (tt : TT) (te : TE) (vs : List Nat) (σ : L2.St) (cont : List V → Hp → Prop) (W : Nat → Nat → List V → Hp → Prop) : Prop :=
  ∀ i m ys H, W i m ys H → (J.stop i H ∧ cont ys H) ∨ (J.go i H ∧ ∃ Nx : List V → Hp → Prop, (∀ zs H', Nx zs H' → ∃ m', m' < m ∧ W (i + 1) m' zs H') ∧ ∀ x H', J.yld i H x H' →
    g x (wipe σ vs) H' fun σ2 H2 => wipe σ2 vs = wipe σ vs ∧ tt σ2 H2 fun b H3 => if b = true then te σ2 H3 fun y H4 => ys.length < sizeLine ∧ Nx (ys ++ [y]) H4 else Nx ys H3)
section
variable {Y : Cx} {S : Addr} {B : Around} {elt tg iter : Expr} {ifs : List Expr} {scope : Scope} {pos : Pos} {fp : List Addr} {it : Addr} {tn : Nat → Heap → Prop} {J : It} {g : TG} {tt : TT} {te : TE} {vs : List Nat} {σ : L2.St} {cont : List V → Hp → Prop} {W : Nat → Nat → List V → Hp → Prop}
theorem gex_loop (hc : Y.calm = true) (hx : Y.xe = fun _ _ => False) (hf : Y.ex = fp) (hco : Y.env.scope.isCoroutine = false) (hov : ∀ c : Code, c = .compLoop (.GeneratorExp elt [⟨tg, iter, ifs, 0⟩] scope pos) 0 (.ref it) .none Y.env → B.over c [] = Y.A) (hA : Apart Y S) (hpn : ∀ p ∈ Y.pn, p.1 ≠ S) (hpf : ∀ p ∈ Y.pn, p.1 ∉ fp) (hSf : S ∉ fp)
    (T : Turn Y.prog Y.w Y.K tg J fp it tn) (pg : PG Y tg g) (pt : PTs Y ifs tt) (pe : PE Y elt te) (tu : Turns J g tt te vs σ cont W) :
    ∀ (m n i : Nat) (ys : List V) (s₀ s : Shared) (H : Hp), n + ys.length = sizeLine → W i m ys H → GI Y S [] ys (wipe σ vs) H s → tn i s.heap → (∀ b ∈ fp, H b = none) →
      Seg (model Y.prog Y.w) B (GE Y S cont) (GY Y S) n s₀ (.compLoop (.GeneratorExp elt [⟨tg, iter, ifs, 0⟩] scope pos) 0 (.ref it) .none Y.env)
        ((model Y.prog Y.w).den (.compLoop (.GeneratorExp elt [⟨tg, iter, ifs, 0⟩] scope pos) 0 (.ref it) .none Y.env)) [] s := by
  have hover := hov _ rfl
  have stat : ∀ {σ' : L2.St} {H' : Hp} {s' : Shared} {acc : Array Value} {c : Nat}, Inv Y [(S, lstObj acc c)] σ' H' s' → (∀ b ∈ fp, H' b = none) → ∀ b ∈ fp, FpOk Y [(S, lstObj acc c)] H' b := fun {σ' H' s' acc c} I hn b hb => by
    have hb' : b ∈ Y.ex := by rw [hf]; exact hb
    refine ⟨hn b hb, (I.ok.exf b hb').1, I.ok.exfs b hb', .inl hb', fun x c e => (I.ok.exf b hb').2 x c e, fun p hp => ?_⟩
    rcases List.mem_append.mp hp with z | z
    · exact fun e => hpf p z (e ▸ hb)
    · rw [List.mem_singleton.mp z]
      exact fun e => hSf (by rw [show S = b from e]; exact hb)
  have dead : ∀ {n : Nat} {s₀ : Shared} {e : Value} {s' : Shared} {P : Prop}, Y.xe e s' → P := fun {n s₀ e s' P} h => by
    rw [hx] at h
    exact h.elim
  intro m
  induction m using Nat.strongRecOn with
  | ind m ih =>
    intro n i ys s₀ s H hn w hI st hnf
    obtain ⟨acc, c, r, I⟩ := hI
    show Seg _ B _ _ _ s₀ _ ((compTurn (.GeneratorExp elt [⟨tg, iter, ifs, 0⟩] scope pos) 0 (.ref it) .none Y.env).onRaise (leaving Y.env)) [] s
    rw [compTurn_gen, Sem.onRaise_eq_wrap]
    refine seg_bind_wrap (wpAny_standAt ?_)
    rcases tu i m ys H w with ⟨stop, q⟩ | ⟨go, Nx, hNx, step⟩
    · have td := T.done Y rfl rfl rfl hc i [(S, lstObj acc c)] s _ H (fun _ _ => False) I (stat I hnf) st stop
      refine seg_bind_wrap ?_
      rw [hover]
      refine wpAny_mono td (fun z s6 hz => ?_) fun _ _ e => e.elim
      obtain ⟨rfl, I6⟩ := hz
      exact seg_end (.ok .next) ⟨rfl, ys, [], _, H, hn, ⟨acc, c, r, I6⟩, q⟩
    · have ti := T.item Y rfl rfl rfl hc i [(S, lstObj acc c)] s _ H (fun _ _ => False) I (stat I hnf) st go
      refine seg_bind_wrap ?_
      rw [hover]
      refine wpAny_mono ti (fun z s6 hz => ?_) fun _ _ e => e.elim
      obtain ⟨u, rfl, h6⟩ := hz
      refine seg_bind_wrap ?_
      rw [hover]
      refine wpAny_mono h6 (fun _ s7 h7 => ?_) fun _ _ e => e.elim
      obtain ⟨x, H7, I7, r7, y7, st7, n7⟩ := h7
      have I7' := I7.pinned (stat I7 n7) (T.obj _ _ st7)
      refine seg_bind_wrap ?_
      rw [hover]
      refine wpAny_mono (pg.run _ s7 _ H7 x u _ I7' r7 (step x H7 y7)) (fun _ s8 h8 => ?_) fun _ _ e => dead (n := n) (s₀ := s₀) e
      obtain ⟨σ8, H8, I8, hw8, q8⟩ := h8
      refine seg_bind_wrap ?_
      rw [hover]
      refine wpAny_mono (pt.run _ s8 σ8 H8 _ I8 q8) (fun b s9 h9 => ?_) fun _ _ e => dead (n := n) (s₀ := s₀) e
      obtain ⟨H9, I9, q9⟩ := h9
      have hl8 : (wipe σ vs).length = σ8.length := by rw [← hw8, wipe_length]
      -- behind the turn
      have turn : ∀ {n' : Nat} {s₀' s' : Shared} {H' : Hp} {zs : List V}, n' + zs.length = sizeLine → GI Y S (pinsAt fp s7.heap) zs σ8 H' s' → Nx zs H' → Seg (model Y.prog Y.w) B (GE Y S cont) (GY Y S) n' s₀' (.compLoop (.GeneratorExp elt [⟨tg, iter, ifs, 0⟩] scope pos) 0 (.ref it) .none Y.env)
          ((model Y.prog Y.w).den (.compLoop (.GeneratorExp elt [⟨tg, iter, ifs, 0⟩] scope pos) 0 (.ref it) .none Y.env)) [] s' := fun {n' s₀' s' H' zs} hn' hG nx => by
        obtain ⟨m', hm, w'⟩ := hNx zs H' nx
        obtain ⟨acc', c', r', I'⟩ := hG
        have pin' : ∀ b ∈ fp, ∀ o, s7.heap.get? b = some o → s'.heap.get? b = some o ∧ H' b = none := fun b hb o e =>
          let z := I'.pin (b, o) (List.mem_append_right _ (List.mem_cons_of_mem _ (mem_pinsAt hb e)))
          ⟨z.1, z.2.1⟩
        have I2 : Inv Y [(S, lstObj acc' c')] σ8 H' s' := I'.pins_of fun p hp => I'.pin p (List.mem_append_right _ (by rw [List.mem_singleton.mp hp]; exact List.mem_cons_self))
        refine ih m' hm n' (i + 1) zs s₀' s' H' hn' w' ⟨acc', c', r', I2.weak hl8 fun j v e => ?_⟩ (T.keep _ _ _ st7 fun b hb o e => (pin' b hb o e).1) fun b hb => ?_
        · rw [← hw8] at e
          exact (wipe_some e).1
        · obtain ⟨o, e, _⟩ := T.obj _ _ st7 b hb
          exact (pin' b hb o e).2
      cases b with
      | false =>
        simp only [Bool.false_eq_true, if_false] at q9 ⊢
        exact seg_again rfl (turn hn ⟨acc, c, r, I9⟩ q9)
      | true =>
        simp only [if_true] at q9 ⊢
        have hy : ∀ v, yieldOut Y.env v = yieldValue v := fun v => by simp only [yieldOut, hco, Bool.false_eq_true, if_false]
        simp only [hy]
        rw [Sem.bind_eq_wrap', Sem.bind_eq_wrap', Sem.wrap_wrap, Sem.wrap_wrap]
        refine seg_wrap ?_
        rw [hover]
        refine wpAny_mono (pe.run _ s9 σ8 H9 _ I9 q9) (fun v s10 h10 => ?_) fun _ _ e => dead (n := n) (s₀ := s₀) e
        obtain ⟨yv, H10, I10, r10, hlt, nx⟩ := h10
        obtain ⟨n', rfl⟩ : ∃ n', n = n' + 1 := ⟨n - 1, by omega⟩
        have hip : ∀ p ∈ pinsAt fp s7.heap, p.1 ≠ S := fun p hp e => hSf (e ▸ (of_pinsAt hp).1)
        refine seg_at (seg_yield rfl rfl rfl ⟨ys, yv, pinsAt fp s7.heap, σ8, H10, hn, r10, ⟨acc, c, r, I10⟩, fun s'' hz => ?_⟩)
        exact seg_again rfl (turn (by rw [List.length_append, List.length_singleton]; omega) (GI.woken hpn hip hA ⟨acc, c, r, I10⟩ r10 hz) nx)
end
end GenX

set_option Elab.async false
set_option linter.all false
set_option maxRecDepth 100000
set_option maxHeartbeats 2000000
namespace GenX
open PySem PySem.Spec PyProof.Rows L2 GenW
section
variable {Y : Cx} {S : Addr} {B : Around} {elt tg iter : Expr} {ifs : List Expr} {scope : Scope} {pos : Pos} {fp : List Addr} {it : Addr} {tn : Nat → Heap → Prop} {J : It} {g : TG} {tt : TT} {te : TE} {vs : List Nat} {σ : L2.St} {cont : List V → Hp → Prop} {W : Nat → Nat → List V → Hp → Prop}
theorem gex_begin {R : GenEnd} {Pr : Protocol} {n : Nat} {s₀ s : Shared} (T : Turn Y.prog Y.w Y.K tg J fp it tn) (st : tn 0 s.heap)
    (h : Seg (model Y.prog Y.w) B R Pr n s₀ (.compLoop (.GeneratorExp elt [⟨tg, iter, ifs, 0⟩] scope pos) 0 (.ref it) .none Y.env) ((model Y.prog Y.w).den (.compLoop (.GeneratorExp elt [⟨tg, iter, ifs, 0⟩] scope pos) 0 (.ref it) .none Y.env)) [] s) :
    Seg (model Y.prog Y.w) B R Pr n s₀ (.compStart (.GeneratorExp elt [⟨tg, iter, ifs, 0⟩] scope pos) 0 (.ref it) .none Y.env) ((model Y.prog Y.w).den (.compStart (.GeneratorExp elt [⟨tg, iter, ifs, 0⟩] scope pos) 0 (.ref it) .none Y.env)) [] s := by
  show Seg _ B _ _ _ s₀ _ ((compStart (.GeneratorExp elt [⟨tg, iter, ifs, 0⟩] scope pos) 0 (.ref it) .none Y.env).onRaise (leaving Y.env)) [] s
  unfold compStart
  rw [Sem.onRaise_eq_wrap]
  show Seg _ B _ _ _ s₀ _ ((ask >>= _).wrap _ _ _ _) [] s
  refine seg_bind_wrap (wpAny_askSetting ?_)
  split
  · exact seg_again rfl h
  · refine seg_bind_wrap (wpAny_rule ?_)
    show Seg _ B _ _ _ s₀ _ ((standAt iter.pos >>= _).wrap _ _ _ _) [] s
    exact seg_bind_wrap (wpAny_standAt (seg_bind_wrap (T.self _ 0 s _ _ st (seg_again rfl h))))
end
/-- the generator's code stands where a def's body would -/
theorem over_gex {A : Around} {c : Code} {elt : Expr} {gens : List Comprehension} {scope : Scope} {pos : Pos} {it : Value} {env : Env} (h : c = .compLoop (.GeneratorExp elt gens scope pos) 0 it .none env ∨ c = .compStart (.GeneratorExp elt gens scope pos) 0 it .none env) : A.over c [] = A.deeper env := by
  obtain ⟨hd, d, fr, gs, u⟩ := A
  rcases h with rfl | rfl <;> simp [Around.over, Around.deeper, marksOver, frameCount, unitsOf, envsOf, guardsOf, pushEnvs, pushGuards, Code.envs, Code.env?, Code.isFrame, Code.guards, Code.isGuard, Code.weight, Code.frames, Code.isCreation, Code.isCaller, Code.cUnits]
/-- what is pinned in the context, if it holds -/
theorem gex_pin {X : Cx} {B : Around} {s s1 : Shared} {H H' : Hp} {env : Env} {fp : List Addr} {pn pins : List (Addr × Obj)} {σ : L2.St} (I : Inv (gexCx X B s H env fp []) [] σ H' s1)
    (h : ∀ p ∈ pn ++ pins, s1.heap.get? p.1 = some p.2 ∧ H' p.1 = none ∧ p.1 ≠ env.locals ∧ p.1 ∉ frs X.stack ∧ ∀ v, p.2.data ≠ .cell v) : Inv (gexCx X B s H env fp pn) pins σ H' s1 :=
  ⟨⟨I.ok.mod, I.ok.kind, I.ok.glob, I.ok.blt, I.ok.above, I.ok.inj, I.ok.has, I.ok.cab, I.ok.hd, I.ok.frames, I.ok.stk, I.ok.exf, I.ok.bs, I.ok.bsz, I.ok.noex, I.ok.exfs, I.ok.funs, I.ok.frf⟩, I.os, I.bare, I.base, I.loc, I.cell, I.free, I.freeC, h, I.hok, I.len⟩
end GenX

set_option Elab.async false
set_option linter.all false
set_option maxRecDepth 100000
set_option maxHeartbeats 2000000
namespace GenX
open PySem PySem.Spec PyProof.Rows L2 GenW
/-- the frame's environment -/
abbrev gexE (X : Cx) (scope : Scope) (C : Addr) (code : Value) : Env := genEnv scope (cloFrom X.env.cells scope.names []) C code builtinsNs X.env
theorem clo_back {X : Cx} {scope : Scope} {own : List (Str × Nat)} (okX : X.Ok) (ok : BlkOk X.N X.env.scope scope own) {y : Str} {c : Addr} (e : (cloFrom X.env.cells scope.names []).lookup y = some c) : X.env.cells.lookup y = some c := by
  rcases cloFrom_mem (PySem.mem_of_lookup e) with z | ⟨z1, z2⟩
  · cases z
  · obtain ⟨d, hd'⟩ := (ok.free _ z1 rfl).elim (fun k => okX.has _ (.inl k)) fun k => okX.has _ (.inr k)
    have hd' : X.env.cells.lookup y = some d := hd'
    rw [hd'] at z2
    rw [z2]
    exact hd'
section
variable {X : Cx} {pins : List (Addr × Obj)} {σ : L2.St} {H : Hp} {s : Shared} {elt tg iter : Expr} {ifs : List Expr} {scope : Scope} {pos : Pos} {fp : List Addr} {it : Addr} {tn : Nat → Heap → Prop} {J : It} {g : TG} {tt : TT} {te : TE} {own : List (Str × Nat)} {cont : List V → Hp → Prop} {k : Nat} {EX : XK}
theorem gex_made {code : Value} {h' : Heap} {nm qn : Value} {tk : Nat} (I : Inv X pins σ H s) (ok : BlkOk X.N X.env.scope scope own) (hN : X.N.Nodup) (hcell : ∀ y ∈ scope.names, y.2 ≠ .cell) (hco : scope.isCoroutine = false)
    (T : Turn X.prog X.w X.K tg J fp it tn) (st : tn 0 s.heap) (hfp : ∀ b ∈ fp, FpOk X pins H b)
    (hns : h'.Ns s.heap.objs.size fun y => if y = ".0" then some (.ref it) else none) (hsz : h'.objs.size = s.heap.objs.size + 1) (kp : ∀ b o, s.heap.get? b = some o → h'.get? b = some o)
    (pg : ∀ (B : Around) (pn : List (Addr × Obj)), Room k (B.deeper (gexE X scope s.heap.objs.size code)) → PG (gexCx X B s H (gexE X scope s.heap.objs.size code) fp pn) tg g)
    (pt : ∀ (B : Around) (pn : List (Addr × Obj)), Room k (B.deeper (gexE X scope s.heap.objs.size code)) → PTs (gexCx X B s H (gexE X scope s.heap.objs.size code) fp pn) ifs tt)
    (pe : ∀ (B : Around) (pn : List (Addr × Obj)), Room k (B.deeper (gexE X scope s.heap.objs.size code)) → PE (gexCx X B s H (gexE X scope s.heap.objs.size code) fp pn) elt te)
    (q : ∃ W : Nat → Nat → List V → Hp → Prop, (∃ m, W 0 m [] H) ∧ Turns J g tt te (own.map (·.2)) σ cont W) :
    GMade X.prog X.w (k + 1) X.stack H s fp cont EX (.ref h'.objs.size)
      { s with gens := s.gens.push (.fresh (.compStart (.GeneratorExp elt [⟨tg, iter, ifs, 0⟩] scope pos) 0 (.ref it) .none (gexE X scope s.heap.objs.size code))), toks := tk, heap := h'.push { cls := .type "generator", data := .fields #[.int s.gens.size 0, nm, qn] } } := by
  obtain ⟨W, ⟨m0, w0⟩, tu⟩ := q
  have here : (h'.push { cls := .type "generator", data := .fields #[.int s.gens.size 0, nm, qn] }).get? h'.objs.size = some { cls := .type "generator", data := .fields #[.int s.gens.size 0, nm, qn] } := Heap.get?_push_size _ rfl
  have kg : ∀ b o, s.heap.get? b = some o → (h'.push { cls := .type "generator", data := .fields #[.int s.gens.size 0, nm, qn] }).get? b = some o := fun b o e => Heap.get?_push_of_some _ (kp b o e)
  have isg : ∀ h : Heap, h.get? h'.objs.size = some { cls := .type "generator", data := .fields #[.int s.gens.size 0, nm, qn] } → h.IsGen h'.objs.size s.gens.size := fun h e => ⟨_, nm, qn, e, rfl, rfl, rfl⟩
  refine ⟨h'.objs.size, s.gens.size, _, rfl, by rw [hsz]; exact Nat.le_succ _, by show _ < (h'.push _).objs.size; rw [Heap.size_push]; exact Nat.lt_succ_self _, isg _ here, Array.getElem?_push_size .., rfl, I.bare.push rfl, I.nolimit.keeps kg, kg, ?_⟩
  intro B S s2 hr hfr hS hk hSo hos hbare
  have hrk : Room k (B.deeper (gexE X scope s.heap.objs.size code)) := hr.deeper _
  have lt : ∀ b ∈ fp, b < s.heap.objs.size := fun b hb => by
    obtain ⟨o, e, _⟩ := T.obj _ _ st b hb
    exact Heap.lt_size e
  have k2 : ∀ b o, s.heap.get? b = some o → s2.heap.get? b = some o := fun b o e => hk b o (kg b o e)
  have hns2 : s2.heap.Ns s.heap.objs.size fun y => if y = ".0" then some (.ref it) else none := hns.keeps fun b o e => hk b o (Heap.get?_push_of_some _ e)
  have I1 := gex_start (B := B) (own := own) (code := code) (it := .ref it) I ok hN hcell (fun b hb => ⟨hfp b hb, lt b hb⟩) hr.hd hfr hos hbare k2 hns2
  have hSz : h'.objs.size < S := by
    have : (h'.push { cls := .type "generator", data := .fields #[.int s.gens.size 0, nm, qn] }).objs.size ≤ S := hS
    rw [Heap.size_push] at this
    exact this
  obtain ⟨cS, eS⟩ := hSo
  have eg := hk _ _ here
  have young : ∀ b, s.heap.objs.size < b → H b = none ∧ b ≠ s.heap.objs.size ∧ b ∉ frs X.stack ∧ s.heap.objs.size ≤ b ∧ (∀ y c, (cloFrom X.env.cells scope.names []).lookup y = some c → c ≠ b) ∧ b ∉ fp := fun b hb => by
    refine ⟨I.hok.fresh (Nat.le_of_lt hb), Nat.ne_of_gt hb, fun hm => ?_, Nat.le_of_lt hb, fun y c e z => ?_, fun hm => absurd (Nat.lt_trans hb (lt b hm)) (Nat.lt_irrefl _)⟩
    · rcases List.mem_cons.mp (I.stkSub b hm) with z | z
      · have := I.lt
        rw [← z] at this
        exact absurd (Nat.lt_trans hb this) (Nat.lt_irrefl _)
      · exact I.nofs (Nat.le_of_lt hb) z
    · obtain ⟨v, o, ho, _⟩ := I.cell y c (clo_back I.ok ok e)
      have := Heap.lt_size ho
      rw [z] at this
      exact absurd (Nat.lt_trans hb this) (Nat.lt_irrefl _)
  have hgs : s.heap.objs.size < h'.objs.size := by rw [hsz]; exact Nat.lt_succ_self _
  obtain ⟨g1, g2, g3, g4, g5, g6⟩ := young h'.objs.size hgs
  obtain ⟨u1, u2, u3, u4, u5, u6⟩ := young S (Nat.lt_trans hgs hSz)
  have hI : GI (gexCx X B s H (gexE X scope s.heap.objs.size code) fp [(h'.objs.size, { cls := .type "generator", data := .fields #[.int s.gens.size 0, nm, qn] })]) S [] [] (wipe σ (own.map (·.2))) H s2 := by
    refine ⟨#[], cS, .nil, gex_pin I1 fun p hp => ?_⟩
    rcases List.mem_append.mp hp with z | z <;> rw [List.mem_singleton.mp z]
    · exact ⟨eg, g1, g2, g3, (fun v e => nomatch e)⟩
    · exact ⟨eS, u1, u2, u3, (fun v e => nomatch e)⟩
  have hne : ∀ p ∈ (gexCx X B s H (gexE X scope s.heap.objs.size code) fp [(h'.objs.size, { cls := .type "generator", data := .fields #[.int s.gens.size 0, nm, qn] })]).pn, p.1 ≠ S := fun p hp => by
    rw [List.mem_singleton.mp hp]
    exact Nat.ne_of_lt hSz
  have hpf : ∀ p ∈ (gexCx X B s H (gexE X scope s.heap.objs.size code) fp [(h'.objs.size, { cls := .type "generator", data := .fields #[.int s.gens.size 0, nm, qn] })]).pn, p.1 ∉ fp := fun p hp => by
    rw [List.mem_singleton.mp hp]
    exact g6
  have hAp : Apart (gexCx X B s H (gexE X scope s.heap.objs.size code) fp [(h'.objs.size, { cls := .type "generator", data := .fields #[.int s.gens.size 0, nm, qn] })]) S := ⟨u4, u2, u5⟩
  have own2 : ∀ {ip : List (Addr × Obj)} {ys : List V} {s' : Shared} {σ' : L2.St} {H' : Hp}, GI (gexCx X B s H (gexE X scope s.heap.objs.size code) fp [(h'.objs.size, { cls := .type "generator", data := .fields #[.int s.gens.size 0, nm, qn] })]) S ip ys σ' H' s' → s'.heap.IsGen h'.objs.size s.gens.size := fun {ip ys s' σ' H'} h => by
    obtain ⟨acc, cc, _, K⟩ := h
    exact isg _ (K.pin (h'.objs.size, _) (List.mem_append_left _ (List.mem_singleton.mpr rfl))).1
  have st2 : tn 0 s2.heap := T.keep _ _ _ st fun b _ o e => k2 b o e
  refine seg_imp (fun n s₀ r s1' hR => ?_) (fun n s₀ v s1' kap kap' hkk hY => ?_) sizeLine (gex_begin (Y := gexCx X B s H (gexE X scope s.heap.objs.size code) fp [(h'.objs.size, { cls := .type "generator", data := .fields #[.int s.gens.size 0, nm, qn] })]) T st2 (gex_loop rfl rfl rfl hco (fun c hc => over_gex (.inl hc)) hAp hne hpf u6 T (pg B _ hrk) (pt B _ hrk) (pe B _ hrk) tu m0 sizeLine 0 [] s2 s2 H (Nat.add_zero _) w0 hI st2 fun b hb => (hfp b hb).1))
  · obtain ⟨rfl, ys, ip, σ', H', hn, hG, hQ⟩ := hR
    obtain ⟨a1, _, _, acc, cc, ra, ea⟩ := hG.at
    obtain ⟨_, _, _, K⟩ := hG
    exact .inl ⟨.inr rfl, H', ys, acc, cc, K.os, K.bare, K.base, K.hok, a1, ea, ra, by omega, hQ⟩
  · obtain ⟨ys, xx, ip, σ', H', hn, rx, hG, hw⟩ := hY
    obtain ⟨_, _, _, acc, cc, ra, ea⟩ := hG.at
    have hg := own2 hG
    obtain ⟨_, _, _, K⟩ := hG
    have hl : acc.size = ys.length := by
      have e1 := ra.length
      have e2 : acc.toList.length = acc.size := by simp
      omega
    exact ⟨K.os, K.bare, K.nolimit, hg, ⟨acc, cc, ea, by rw [hl]; exact hn⟩, fun s' z => hkk _ _ (hw s' z)⟩
end
end GenX

set_option Elab.async false
set_option linter.all false
set_option maxRecDepth 100000
set_option maxHeartbeats 2000000
namespace GenX
open PySem PySem.Spec PyProof.Rows L2 GenW
/-- a generator expression in a def whose code table is at P: the table may have grown; then its turns -/
def tGex (P : Addr) (wi : TI) (g : TG) (tt : TT) (te : TE) (vs : List Nat) : TGen := fun σ H cont => wi σ H fun J H1 => ∃ ps : Array Value, H1 P = some (.tbl ps) ∧ TriplesOk ps.toList ∧
  ∀ qs : Array Value, TriplesOk qs.toList → ∃ W : Nat → Nat → List V → Hp → Prop, (∃ m, W 0 m [] (upd H1 P (.tbl qs))) ∧ Turns J g tt te vs σ cont W
section
variable {X : Cx} {elt tg iter : Expr} {ifs : List Expr} {scope : Scope} {pos : Pos} {g : TG} {tt : TT} {te : TE} {own : List (Str × Nat)} {wi : TI} {k : Nat} {EX : XK} {c P : Addr}
theorem pgen_gex (hd : X.A.handled = none) (hdep : X.A.depth < recursionLimit) (TB : GxR.TabB X.base X.mg c P) (hcode : X.env.code = .ref c) (ok : BlkOk X.N X.env.scope scope own) (hN : X.N.Nodup) (hcell : ∀ y ∈ scope.names, y.2 ≠ .cell) (hco : scope.isCoroutine = false) (dot : scope.names.lookup (".0" : Str) = some NameKind.local)
    (hi : PI X tg iter wi) (hs : ∀ v, genFold iter X.env v = pure v)
    (pg : ∀ (B : Around) (s : Shared) (H : Hp) (C : Addr) (code : Value) (fp : List Addr) (pn : List (Addr × Obj)), Room k (B.deeper (gexE X scope C code)) → PG (gexCx X B s H (gexE X scope C code) fp pn) tg g)
    (pt : ∀ (B : Around) (s : Shared) (H : Hp) (C : Addr) (code : Value) (fp : List Addr) (pn : List (Addr × Obj)), Room k (B.deeper (gexE X scope C code)) → PTs (gexCx X B s H (gexE X scope C code) fp pn) ifs tt)
    (pe : ∀ (B : Around) (s : Shared) (H : Hp) (C : Addr) (code : Value) (fp : List Addr) (pn : List (Addr × Obj)), Room k (B.deeper (gexE X scope C code)) → PE (gexCx X B s H (gexE X scope C code) fp pn) elt te) :
    PGen X (k + 1) (.GeneratorExp elt [⟨tg, iter, ifs, 0⟩] scope pos) (tGex P wi g tt te (own.map (·.2))) EX := by
  refine ⟨fun pins s σ H cont I h => ?_⟩
  have hfree : ∀ y ∈ scope.names, y.2 = .free → ∃ c, X.env.cells.lookup y.1 = some c := fun y hy e => (ok.free y hy e).elim (fun k => I.ok.has _ (.inl k)) fun k => I.ok.has _ (.inr k)
  refine wpAny_GeneratorExp_make hco (closure_ok hfree) hcell dot ok.kind hdep (thn (hi.run pins s σ H _ I h) fun xv s1 hx => thn hx fun itv s2 h2 => ⟨?_, ?_⟩) hs
  · obtain ⟨it, fp, tn, J, H2, e, I2, _⟩ := h2
    exact I2.nolimit
  obtain ⟨it, fp, tn, J, H2, rfl, I2, T, st2, f2, ps, hP, ht, q⟩ := h2
  have hPs : s2.heap.get? P = some { cls := .none, data := .fields ps } := I2.hok P _ hP
  have cd : PySem.W.CodeHd s2.heap c P := TB.code.keeps fun b u e => I2.bk b u e
  have cont2 : ∀ (code : Value) (h3 : Heap) (tk : Nat) (more : Array Value), Heap.ExtBut P s2.heap h3 → s2.heap.objs.size ≤ h3.objs.size → h3.get? P = some { cls := .none, data := .fields (ps ++ more) } → TriplesOk (ps ++ more).toList →
      wpAny (model X.prog X.w) X.A (builtinsFor X.env.globals X.env.builtins) (fun bi s₄ => ∀ h' : Heap, h'.Ns s₄.heap.objs.size (fun y => if y = ".0" then some (.ref it) else none) → Heap.SameBut s₄.heap.objs.size (s₄.heap.push { cls := .type "frame", data := .dict #[] }) h' →
        (fun u s' => ∃ H1 sc ex, Inv X pins σ H1 sc ∧ ExOk X pins ex ∧ GMade X.prog X.w (k + 1) X.stack H1 sc ex cont EX u s') (.ref h'.objs.size)
          { s₄ with gens := s₄.gens.push (.fresh (.compStart (.GeneratorExp elt [⟨tg, iter, ifs, 0⟩] scope pos) 0 (.ref it) .none (genEnv scope (cloFrom X.env.cells scope.names []) s₄.heap.objs.size code bi X.env))), toks := s₄.toks + 1 + 1 + 1,
                    heap := h'.push { cls := .type "generator", data := .fields #[.int s₄.gens.size 0, .str "<genexpr>" (s₄.toks + 1), .str (X.env.qual ++ "<genexpr>") (s₄.toks + 1 + 1)] } }) X.xe { s2 with heap := h3, toks := tk } := by
    intro code h3 tk more hx hsz hP3 ht3
    obtain ⟨bm, ob, e1, e2, e3, e4, e5, e6, e7, e8⟩ := TB.bm
    have I3 : Inv X pins σ (upd H2 P (.tbl (ps ++ more))) { s2 with heap := h3, toks := tk } := GxR.inv_tab (more := more) (h' := h3) (g' := s2.gens) (d' := s2.drawn) (t' := tk) I2 hP (fun b u hb e => hx b u hb e) hP3 I2.bare
    have apart : ∀ b ∈ fp, b ≠ P := fun b hb z => by
      have := (f2 b hb).1
      rw [z, hP] at this
      cases this
    have f3 : ∀ b ∈ fp, FpOk X pins (upd H2 P (.tbl (ps ++ more))) b := fun b hb => ⟨by rw [upd_ne (apart b hb)]; exact (f2 b hb).1, (f2 b hb).2⟩
    have st3 : tn 0 h3 := T.keep _ _ _ st2 fun b hb o e => hx b o (apart b hb) e
    refine wpAny_builtinsFor (m := X.mg) (by rw [I2.ok.glob]; exact (I2.mod.glob.keeps I2.bk).extBut hx TB.gP) e1 e2 (hx _ _ e4 (I2.bk _ _ e5)) e6 e7 e8 ?_
    intro h' hn' hs'
    refine ⟨_, _, fp, I3, fun b hb => ?_, gex_made (own := own) (code := code) I3 ok hN hcell hco T st3 f3 hn' (by rw [hs'.1, Heap.size_push]) (fun b o e => hs'.extBut b o (Nat.ne_of_lt (Heap.lt_size e)) (Heap.get?_push_of_some _ e)) (fun B pn => pg B _ _ _ _ _ pn) (fun B pn => pt B _ _ _ _ _ pn) (fun B pn => pe B _ _ _ _ _ pn) (q _ ht3)⟩
    obtain ⟨_, a1, _, a3, a4, a5⟩ := f2 b hb
    exact ⟨a3, a1, a4, a5⟩
  cases hf : codeAmong pos ps.toList with
  | none =>
    refine PySem.wpAny_genexprCodeX hcode (cd.code hPs ht) (cd.tab hPs) hf fun c' h' tk hx hge hlt hco' _ htab' _ => ?_
    obtain ⟨o1, vs, f1, tf, fl, tg', inF, tx, tt', op, _, _, _, _, _, _, _, _, _, htr, _⟩ := hco'
    exact cont2 _ h' tk _ hx (Nat.le_trans hge (Nat.le_of_lt hlt)) htab'.2 htr
  | some cv =>
    refine PySem.wpAny_genexprCode_hit hcode (cd.code hPs ht) hf ?_
    exact cont2 cv s2.heap s2.toks #[] (Heap.ExtBut.refl _ _) (Nat.le_refl _) (by simpa using hPs) (by simpa using ht)
end
end GenX

set_option Elab.async false
set_option linter.all false
set_option maxRecDepth 100000
set_option maxHeartbeats 2000000
namespace GenX
open PySem PySem.Spec PyProof.Rows L2 GenW
section
variable {P : Program} {w : World} {outer : List Env} {H : Hp} {sc s : Shared} {ex : List Addr} {Q : List V → Hp → Prop} {EX : XK} {A : Around} {k : Nat} {E : Value → Shared → Prop}
/-- all that a generator hands out, as a list that stands in the heap -/
theorem collect_new {u : Value} {Qc : List Value → Shared → Prop} (hr : Room (k + 2) A) (hfr : A.frames = some outer) (gm : GMade P w k outer H sc ex Q EX u s)
    (lost : ∀ e s' g, CX P w outer H sc EX e s' → NotStop (model P w) e s'.heap ∧ E e (s'.setGen g .finished))
    (done : ∀ z s' acc c Hn zs, s.heap.objs.size ≤ z → s'.heap.get? z = some (lstObj acc c) → Vals zs acc.toList → zs.length ≤ sizeLine → s'.os = sc.os → AllBare s'.gens → Un (frs outer) ex H Hn sc.heap s'.heap → HOk P w Hn s'.heap → Hn z = none → Q zs Hn → Qc acc.toList s') :
    wpAny (model P w) A (collect u) Qc E s := by
  obtain ⟨a, g, c, rfl, ha1, ha2, hg, hgs, hos, hb, hl, hkp, wake⟩ := gm
  have za : s.heap.objs.size ≠ a := Nat.ne_of_gt ha2
  have zc : s.heap.objs.size ≠ cStatics := Nat.ne_of_gt (let ⟨_, hn, _⟩ := hl; hn.lt)
  have gen : ∀ {h : Heap}, (∀ b o, s.heap.get? b = some o → h.get? b = some o) → h.IsGen a g := fun {h} k => hg.keeps k
  have p1 : ∀ b o, s.heap.get? b = some o → (s.heap.push { cls := .type "list", data := .seq ([] : List Value).toArray }).get? b = some o := fun b o e => Heap.get?_push_of_some _ e
  unfold collect
  refine wpAny_bind (wpAny_runValue (codeAny_builtin F.entry_proto_collect ?_))
  rw [Around.under_plainId F.plain_proto_collect _]
  show wpAny _ A.in1 (newList [] >>= fun z => again (.builtin "list.__iadd__" ⟨[z, .ref a], []⟩)) _ _ s
  refine wpAny_bind (wpAny_newObj_type ?_)
  refine wpAny_pure ⟨plainId_quiet F.plain_list_iadd _, codeAny_builtin F.entry_list_iadd ?_⟩
  rw [Around.under_plainId F.plain_list_iadd _]
  show wpAny _ A.in1 (Builtin.List.listExtendWith (.ref s.heap.objs.size) (.ref a) (.ref s.heap.objs.size)) _ _ _
  have q1 : (s.heap.push { cls := .type "list", data := .seq ([] : List Value).toArray }).get? s.heap.objs.size = some { cls := .type "list", data := .seq ([] : List Value).toArray } := Heap.get?_push_size _ rfl
  have far : ∀ (h : Heap) (f : Obj → Obj), (∀ b o, s.heap.get? b = some o → h.get? b = some o) → ∀ b o, s.heap.get? b = some o → (h.update s.heap.objs.size f).get? b = some o := fun h f q b o e =>
    (Heap.get?_update_other _ _ (Ne.symm (Nat.ne_of_lt (Heap.lt_size e)))).trans (q b o e)
  have d1 : Builtin.List.listSameRef (.ref s.heap.objs.size) (.ref a) = false := by simp [Builtin.List.listSameRef, za]
  have d2 : (Value.type "generator" == Value.type "list") = false ∧ (Value.type "generator" == Value.type "tuple") = false := ⟨by decide, by decide⟩
  unfold Builtin.List.listExtendWith
  refine wpAny_bind (wpAny_typeOf (Heap.IsGen.typeIs (s := { s with heap := _ }) (gen p1)) ?_)
  simp only [d1, d2.1, d2.2, Bool.or_false, Bool.false_eq_true, if_false]
  refine wpAny_bind (wpAny_pyIter_gen (s := { s with heap := _ }) (gen p1) ?_)
  refine (wpAny_bind (wpAny_holding ?_))
  unfold Builtin.List.listLengthHint
  refine wpAny_bind (wpAny_specialOf (Heap.IsGen.typeIs (s := { s with heap := _ }) (gen p1)) F.gen_no_len ?_)
  show wpAny _ A.in1 (specialOf (Value.ref a) (Str.ofString "__length_hint__") >>= _) _ _ _
  refine wpAny_bind (wpAny_specialOf (Heap.IsGen.typeIs (s := { s with heap := _ }) (gen p1)) F.gen_no_hint ?_)
  refine wpAny_pure ?_
  show wpAny _ A.in1 (rule "list.extend.makes-room" >>= fun _ => Builtin.List.listTouch (.ref s.heap.objs.size) >>= fun _ => again (.builtin "list.extend.loop" ⟨[.ref s.heap.objs.size, .ref a, .ref s.heap.objs.size], []⟩)) _ _ _
  refine (wpAny_bind (wpAny_rule (wpAny_bind ?_)))
  show wpAny _ A.in1 (updateSeq s.heap.objs.size (·.push .none) >>= fun _ => updateSeq s.heap.objs.size (·.pop)) _ _ _
  refine (wpAny_bind (wpAny_updateSeq q1 rfl ?_))
  have q2 := Heap.get?_update_self (Obj.mapSeq (·.push Value.none)) q1 rfl
  refine (wpAny_updateSeq (hz := by seq_fits) q2 rfl ?_)
  have q3 := Heap.get?_update_self (Obj.mapSeq (·.pop)) q2 rfl
  have p3 := far _ (Obj.mapSeq (·.pop)) (far _ (Obj.mapSeq (·.push Value.none)) p1)
  refine wpAny_pure ⟨plainId_quiet F.plain_extend_loop _, ?_⟩
  refine drain (P := P) (w := w) (outer := outer) (H := H) (sc := sc) (ex := ex) (Q := Q) (EX := EX) (A := A) (g := g) hr.hd (by have := hr.dp; omega) za zc
    (fun s' acc cc Hn zs r1 r2 r3 r4 r5 r6 r7 r8 r9 => ?_) (fun e s' he => lost e s' g he) sizeLine _ (gen p3) (hl.keeps p3) ⟨_, hgs, rfl, wake _ _ _ ⟨hr.hd, ?_, ?_⟩ hfr (Nat.le_refl _) p3 ⟨_, q3⟩ hos (allBare_setGen (s := { s with heap := _ }) hb rfl)⟩
  · refine wpAny_bind (wpAny_load r1 (wpAny_pure ?_))
    exact done _ s' acc cc Hn zs (Nat.le_refl _) r1 r2 r3 r4 r5 r6 r7 r8 r9
  · have := hr.dp
    show A.depth + 3 * k + 5 < _
    omega
  · have := hr.un
    show A.units + 1 + 1 + 16 * k + 200 < _
    omega
/-- tuple(g) -/
theorem call_tup_new {u : Value} {Qc : Value → Shared → Prop} (hr : Room (k + 3) A) (hfr : A.frames = some outer) (gm : GMade P w k outer H sc ex Q EX u s)
    (done : ∀ (s' : Shared) (acc : Array Value) (Hn : Hp) (zs : List V) (z : Addr) (c : Nat), s.heap.objs.size ≤ z → s'.heap.get? z = some (lstObj acc c) → Vals zs acc.toList → zs.length ≤ sizeLine → s'.os = sc.os → AllBare s'.gens → Un (frs outer) ex H Hn sc.heap s'.heap → HOk P w Hn s'.heap → Hn z = none → Q zs Hn →
      Qc (.ref s'.heap.objs.size) { s' with heap := s'.heap.push { cls := .type "tuple", data := .seq acc } })
    (lost : ∀ e s' g, CX P w outer H sc EX e s' → NotStop (model P w) e s'.heap ∧ E e (s'.setGen g .finished)) :
    wpAny (model P w) A (call (.type "tuple") [u]) Qc E s := by
  obtain ⟨a, g, c, rfl, _, _, hg, _⟩ := id gm
  have hTI : s.TypeIs (.ref a) "generator" := Heap.IsGen.typeIs hg
  have code : codeAny (model P w) A.in1 (.call (.builtin "tuple.__new__") ⟨[.type "tuple", .ref a], []⟩) (wants (fun o s1 => s1.TypeIs o "tuple" ∧ Qc o s1) E) s := by
    refine codeAny_of_tree ?_
    show wpAny _ A.in1.in1 (do checkBuiltinCall "tuple.__new__" ⟨[.type "tuple", .ref a], []⟩; again (.builtin "tuple.__new__" ⟨[.type "tuple", .ref a], []⟩)) _ _ s
    refine wpAny_bind (wpAny_of_eq (F.newCall_tuple_1 _) (wpAny_pure ⟨plainId_quiet F.plain_tuple_new _, codeAny_builtin F.entry_tuple_new ?_⟩))
    rw [Around.under_plainId F.plain_tuple_new _]
    have w1 := sub_tuple_self
    have w2 := init_tuple_lookup
    have w3 := madeHere_tuple
    have hr2 : Room (k + 2) A.in1.in1 := ⟨hr.hd, by have := hr.dp; show A.depth + 3 * (k + 2) + 5 < _ ; omega, by have := hr.un; show A.units + 1 + 1 + 16 * (k + 2) + 200 < _; omega⟩
    wp_walk using wpAny_typeOf hTI, collect_new (E := fun e s' => wants (fun o s1 => s1.TypeIs o "tuple" ∧ Qc o s1) E (Except.error e) s') hr2 hfr gm (fun e s' g he => lost e s' g he)
    intro z s' acc cc Hn zs r0 r1 r2 r3 r4 r5 r6 r7 r8 r9
    show wpAny _ _ (Builtin.Tuple.tupleExact acc.toList.toArray >>= fun v => ret v) _ _ _
    have e : acc.toList.toArray = acc := by simp
    rw [e]
    unfold Builtin.Tuple.tupleExact
    have le : acc.size ≤ sizeLine := by
      have e1 := r2.length
      have e2 : acc.toList.length = acc.size := by simp
      omega
    refine wpAny_bind (wpAny_newObj_type (wpAny_pure ⟨⟨_, Heap.get?_push_size _ rfl, rfl⟩, done s' acc Hn zs z cc r0 r1 r2 r3 r4 r5 r6 r7 r8 r9⟩) le)
  refine callType_codes (Q₁ := fun o s1 => s1.TypeIs o "tuple" ∧ Qc o s1) F.called_tuple (F.typeCall_tuple_1 _) F.entry_object_init code fun o s1 h1 => ?_
  exact ⟨h1.1, F.args_object_init_2 o _, object_init_meets F.called_tuple.init.lookup F.called_tuple.made (by decide) P w A.in1 _ s1 ⟨h1.1, rfl, h1.2⟩⟩
end
end GenX

set_option Elab.async false
set_option linter.all false
set_option maxRecDepth 100000
set_option maxHeartbeats 2000000
namespace GenX
open PySem PySem.Spec PyProof.Rows L2 GenW
def tTupG (tg : TGen) : TE := fun σ H Q => tg σ H fun out H2 => ∀ p, H2 p = none → Q (.ref p) (upd H2 p (.tup out))
/-- tuple(g): nothing leaves it -/
theorem pe_tupG {X : Cx} {k : Nat} {e : Expr} {tg : TGen} {p pos : Pos} (h : PGen X k e tg fun _ _ _ => False) (hr : Room (k + 3) X.A) (hg : Gl X "tuple") (hmg : X.mg "tuple" = none)
    (he : starEach [e] X.env = (false, eval e X.env) :: starEach [] X.env := by rfl) : PE X (.Call (.Name "tuple" p) [e] [] pos) (tTupG tg) := by
  refine ⟨fun pins s σ H Q I hq => ?_⟩
  refine wpAny_Call_Name_kw (ld_blt I hg hmg boot_tuple (PyProof.Rows.callWith_type1 ?_ he rfl))
  rw [he]
  show wpAny _ _ (spliced ((false, eval e X.env) :: backTo pos (starEach [] X.env))) _ _ s
  refine Calls.spliced_cons (thn (h.run pins s σ H _ I hq) fun u s1 ⟨H1, sc, ex, I1, hex, gm⟩ => Calls.spliced_nil ?_)
  refine call_tup_new hr I1.ok.frames gm (fun s' acc Hn zs z c r0 r1 r2 r3 r4 r5 r6 r7 r8 r9 => ?_) fun x s' g hx => ?_
  · have I2 : Inv X pins σ Hn s' := I1.call' r4 r6 r7 r5 hex
    exact ⟨.ref s'.heap.objs.size, upd Hn s'.heap.objs.size (.tup zs), I2.laid (t' := s'.toks) (fun b o e => Heap.get?_push_of_some _ e) (Nat.le_refl _) (show ObjOk X.prog X.w _ _ _ (.tup zs) from ⟨r3, acc.toList, r2, by simpa using IsTup.new s'.heap acc⟩), rfl, r9 _ (I2.hok.fresh (Nat.le_refl _))⟩
  · obtain ⟨a, B, H', cls, d, _, _, _, _, _, _, _, no⟩ := hx
    exact no.elim
end GenX

set_option Elab.async false
set_option linter.all false
set_option maxRecDepth 100000
set_option maxHeartbeats 2000000
/-! readings: over a range, a list, a tuple; Pv by the turn, what is out, the heap -/
namespace GenX
open PySem PySem.Spec PyProof.Rows L2
section
variable {g : TG} {tt : TT} {te : TE} {vs : List Nat} {σ : L2.St} {H0 : Hp} {cont : List V → Hp → Prop} (Pv : Nat → List V → Hp → Prop)
/-- one turn with x, from (i, ys) -/
def One (g : TG) (tt : TT) (te : TE) (vs : List Nat) (σ : L2.St) (Pv : Nat → List V → Hp → Prop) (i : Nat) (ys : List V) (x : V) (H : Hp) : Prop :=
  g x (wipe σ vs) H fun σ2 H2 => wipe σ2 vs = wipe σ vs ∧ tt σ2 H2 fun b H3 => if b = true then te σ2 H3 fun y H4 => ys.length < sizeLine ∧ Pv (i + 1) (ys ++ [y]) H4 else Pv (i + 1) ys H3
theorem gx_range {lo : Int} {n : Nat} (h0 : Pv 0 [] H0) (hs : ∀ i ys H, i < n → Pv i ys H → One g tt te vs σ Pv i ys (.int (lo + i)) H) (hd : ∀ ys H, Pv n ys H → cont ys H) :
    ∃ W : Nat → Nat → List V → Hp → Prop, (∃ m, W 0 m [] H0) ∧ Turns (Itr lo n) g tt te vs σ cont W := by
  refine ⟨fun i m ys H => m = n - i ∧ i ≤ n ∧ Pv i ys H, ⟨n, by simp, Nat.zero_le _, h0⟩, ?_⟩
  rintro i m ys H ⟨rfl, hi, p⟩
  by_cases h : i < n
  · refine .inr ⟨h, Pv (i + 1), fun zs H' p' => ⟨n - (i + 1), by omega, rfl, h, p'⟩, fun x H' y => ?_⟩
    obtain ⟨e, y⟩ := y
    subst e y
    exact hs i ys _ h p
  · have e : i = n := by omega
    subst e
    exact .inl ⟨Nat.le_refl _, hd ys H p⟩
theorem gx_list {K : PySem.W.Frag} {a : Addr} {xs : List V} (h0 : Pv 0 [] H0) (hl : ∀ i ys H, i ≤ xs.length → Pv i ys H → SqL K H a xs) (hs : ∀ i x ys H, xs[i]? = some x → Pv i ys H → One g tt te vs σ Pv i ys x H) (hd : ∀ ys H, Pv xs.length ys H → cont ys H) :
    ∃ W : Nat → Nat → List V → Hp → Prop, (∃ m, W 0 m [] H0) ∧ Turns (Itl K a) g tt te vs σ cont W := by
  refine ⟨fun i m ys H => m = xs.length - i ∧ i ≤ xs.length ∧ Pv i ys H, ⟨xs.length, by simp, Nat.zero_le _, h0⟩, ?_⟩
  rintro i m ys H ⟨rfl, hi, p⟩
  have q := hl i ys H hi p
  by_cases h : i < xs.length
  · refine .inr ⟨⟨xs, xs[i], q, by simp [h]⟩, Pv (i + 1), fun zs H' p' => ⟨xs.length - (i + 1), by omega, rfl, h, p'⟩, fun x H' y => ?_⟩
    obtain ⟨e, y⟩ := y
    subst e
    exact hs i x ys _ (y xs q) p
  · have e : i = xs.length := by omega
    subst e
    exact .inl ⟨⟨xs, q, Nat.le_refl _⟩, hd ys H p⟩
theorem gx_tup {K : PySem.W.Frag} {a : Addr} {xs : List V} (h0 : Pv 0 [] H0) (hl : ∀ i ys H, i ≤ xs.length → Pv i ys H → SqT K H a xs) (hs : ∀ i x ys H, xs[i]? = some x → Pv i ys H → One g tt te vs σ Pv i ys x H) (hd : ∀ ys H, Pv xs.length ys H → cont ys H) :
    ∃ W : Nat → Nat → List V → Hp → Prop, (∃ m, W 0 m [] H0) ∧ Turns (Itt K a) g tt te vs σ cont W := by
  refine ⟨fun i m ys H => m = xs.length - i ∧ i ≤ xs.length ∧ Pv i ys H, ⟨xs.length, by simp, Nat.zero_le _, h0⟩, ?_⟩
  rintro i m ys H ⟨rfl, hi, p⟩
  have q := hl i ys H hi p
  by_cases h : i < xs.length
  · refine .inr ⟨⟨xs, xs[i], q, by simp [h]⟩, Pv (i + 1), fun zs H' p' => ⟨xs.length - (i + 1), by omega, rfl, h, p'⟩, fun x H' y => ?_⟩
    obtain ⟨e, y⟩ := y
    subst e
    exact hs i x ys _ (y xs q) p
  · have e : i = xs.length := by omega
    subst e
    exact .inl ⟨⟨xs, q, Nat.le_refl _⟩, hd ys H p⟩
end
end GenX

set_option Elab.async false
set_option linter.all false
set_option maxRecDepth 100000
namespace S02
open PySem PySem.Spec PyProof.Rows L2 LamX K5 SupX
/-- a def of the module; its function object's code is at c -/
structure Df (K : PySem.W.Frag) (mg : Str → Option Value) (x : Str) (st : Stmt) (f : Addr) : Prop where
  fn : ∃ fd, Fun K x x st f fd
  at_ : mg x = some (.ref f)
theorem Df.kp {K : PySem.W.Frag} {mg : Str → Option Value} {x : Str} {st : Stmt} {f : Addr} (d : Df K mg x st f) : PySem.W.keepIn K (.ref f) = true := by
  obtain ⟨_, F⟩ := d.fn
  exact F.kp
/-- a function object whose code object is known -/
structure FnC (K : PySem.W.Frag) (x qual : Str) (st : Stmt) (f c : Addr) : Prop where
  ex : ∃ (oc : Value) (od : Option Addr) (kV doc pm : Value) (an : Option Addr) (ct : Value) (osl : Array (Option Value)), K.lookup f = some ⟨oc, od, .func (PySem.W.fnOf x qual (defArgs st) (defBody st) (defScope st) .none kV doc pm an (.ref c) ct), osl⟩ ∧ PySem.W.codeIn K (.ref c) qual = true
  kp : PySem.W.keepIn K (.ref f) = true
theorem FnC.fn {K : PySem.W.Frag} {x qual : Str} {st : Stmt} {f c : Addr} (d : FnC K x qual st f c) : ∃ fd, Fun K x qual st f fd := by
  obtain ⟨oc, od, kV, doc, pm, an, ct, osl, lk, hcd⟩ := d.ex
  exact ⟨_, fun_mk lk hcd d.kp⟩
/-- a method of the class at C -/
structure Md (K : PySem.W.Frag) (C : Addr) (m qual : Str) (st : Stmt) (f : Addr) : Prop where
  fn : ∃ fd, Fun K m qual st f fd
  me : Meth K C m f
/-- an exception class of the program, without an __init__ of its own -/
structure Xc (K : PySem.W.Frag) (mg : Str → Option Value) (x : Str) (C : Addr) : Prop where
  at_ : mg x = some (.ref C)
  ex : PySem.W.excIn K C [.type "ValueError", .type "Exception", .type "BaseException", .type "object"] "ValueError.__new__" = true
  kp : PySem.W.keepIn K (.ref C) = true
  sb : PySem.W.subIn K (.ref C) (.type "BaseException") = some true
  ty : PySem.W.typeIn K (.ref C) = some (.type "type")
/-- the addresses, by places in the top (and in a class) -/
structure Ad where
  d : Nat → Addr
  c : Nat → Addr
  m : Nat → Nat → Addr
  co : Nat → Nat → Addr
structure Txt (K : PySem.W.Frag) (mg : Str → Option Value) (A : Ad) : Prop where
  within : Df K mg "within" s_within (A.d 18)
  check_hand : Df K mg "check_hand" s_check_hand (A.d 21)
  is_deed : Df K mg "is_deed" s_is_deed (A.d 22)
  check_deal : Df K mg "check_deal" s_check_deal (A.d 23)
  check_deals : Df K mg "check_deals" s_check_deals (A.d 27)
  read_number : Df K mg "read_number" s_read_number (A.d 28)
  read_last : Df K mg "read_last" s_read_last (A.d 29)
  read_deed : Df K mg "read_deed" s_read_deed (A.d 30)
  read_row : Df K mg "read_row" s_read_row (A.d 31)
  C_read_row : FnC K "read_row" "read_row" s_read_row (A.d 31) (A.co 31 0)
  read_deals : Df K mg "read_deals" s_read_deals (A.d 32)
  begun : Df K mg "_law_begun" s_begun (A.d 34)
  take : Df K mg "_law_take" s_take (A.d 35)
  alike : Df K mg "_law_alike" s_alike (A.d 36)
  class_ : Df K mg "_law_class" s_class (A.d 37)
  refused : Df K mg "_law_refused" s_refused (A.d 38)
  lall : Df K mg "_law_all" s_all (A.d 39)
  store : Df K mg "_law_store" s_store (A.d 40)
  again : Df K mg "_law_again" s_again (A.d 41)
  seen : Df K mg "_law_seen" s_seen (A.d 42)
  tried : Df K mg "_law_tried" s_tried (A.d 43)
  deal : Df K mg "_law_deal" s_deal (A.d 44)
  whole : Df K mg "_law_whole" s_whole (A.d 45)
  deed : Df K mg "_law_deed" s_deed (A.d 46)
  drawn : Df K mg "_law_drawn" s_drawn (A.d 47)
  deals : Df K mg "_law_deals" s_deals (A.d 48)
  text : Df K mg "_law_text" s_text (A.d 49)
  spoilt : Df K mg "_law_spoilt" s_spoilt (A.d 50)
  wrong : Df K mg "_law_wrong" s_wrong (A.d 51)
  number : Df K mg "_law_number" s_number (A.d 52)
  part : Df K mg "_law_part" s_part (A.d 53)
  row : Df K mg "_law_row" s_row (A.d 54)
  fault : Df K mg "_law_fault" s_fault (A.d 55)
  due : Df K mg "_law_due" s_due (A.d 56)
  told : Df K mg "_law_told" s_told (A.d 57)
  C_told : FnC K "_law_told" "_law_told" s_told (A.d 57) (A.co 57 0)
  law : Df K mg "law" s_law (A.d 58)
  c_StillError : mg "StillError" = some (.ref (A.c 1))
  c_BadDeal : mg "BadDeal" = some (.ref (A.c 2))
  x_BadHand : Xc K mg "BadHand" (A.c 3)
  x_BadLetter : Xc K mg "BadLetter" (A.c 4)
  x_BadTime : Xc K mg "BadTime" (A.c 5)
  x_BadKey : Xc K mg "BadKey" (A.c 6)
  x_BadHouse : Xc K mg "BadHouse" (A.c 7)
  x_NoCopy : Xc K mg "NoCopy" (A.c 8)
  c_Behind : mg "Behind" = some (.ref (A.c 9))
  x_BadBlock : Xc K mg "BadBlock" (A.c 10)
  x_BadEntry : Xc K mg "BadEntry" (A.c 11)
  c_BadText : mg "BadText" = some (.ref (A.c 12))
  x_Stopped : Xc K mg "Stopped" (A.c 13)
  k_LAST_KEY : ∃ t, mg "LAST_KEY" = some (.int 31 t)
  k_LAST_HAND : ∃ t, mg "LAST_HAND" = some (.int 3 t)
  k_MOST_DEEDS : ∃ t, mg "MOST_DEEDS" = some (.int 4 t)
  k_MOST_FIGURES : ∃ t, mg "MOST_FIGURES" = some (.int 4 t)
  ValueError : mg "ValueError" = none
  abs : mg "abs" = none
  all : mg "all" = none
  bool : mg "bool" = none
  dict : mg "dict" = none
  enumerate : mg "enumerate" = none
  int : mg "int" = none
  isinstance : mg "isinstance" = none
  len : mg "len" = none
  list : mg "list" = none
  range : mg "range" = none
  sorted : mg "sorted" = none
  str : mg "str" = none
  tuple : mg "tuple" = none
  zip : mg "zip" = none
end S02

set_option Elab.async false
set_option linter.all false
set_option maxRecDepth 100000
/-! ### The mathematics: deeds, rows, entries, readings -/
namespace S02
open PySem PySem.Spec PyProof.Rows L2 K5
inductive Dd where
  | put (k w l : Int)
  | drop (k : Int)
  | add (k m : Int)
  | iff (k : Int) (w : Option Int)
def oV : Option Int → V
  | none => .non
  | some i => .int i
def Dd.word : Dd → Str
  | .put .. => "put"
  | .drop .. => "drop"
  | .add .. => "add"
  | .iff .. => "if"
def Dd.parts : Dd → List V
  | .put k w l => [.int k, .int w, .int l]
  | .drop k => [.int k]
  | .add k m => [.int k, .int m]
  | .iff k w => [.int k, oV w]
def Dd.vs (d : Dd) : List V := .str d.word :: d.parts
def Dd.key : Dd → Int
  | .put k _ _ => k
  | .drop k => k
  | .add k _ => k
  | .iff k _ => k
def inB (lo hi n : Int) : Bool := decide (lo ≤ n) && decide (n ≤ hi)
def Dd.ok : Dd → Bool
  | .put k w l => inB 0 31 k && (inB 0 999 w && inB 0 1000 l)
  | .drop k => inB 0 31 k
  | .add k m => inB 0 31 k && inB (-999) 999 m
  | .iff k none => inB 0 31 k
  | .iff k (some w) => inB 0 31 k && inB 0 999 w
/-- the place of the first deed that is none, from i on -/
def badFrom (i : Nat) : List Dd → Option Nat
  | [] => none
  | d :: ds => if i = 4 ∨ d.ok = false then some i else badFrom (i + 1) ds
def dealBad (ds : List Dd) : Option Nat := if ds = [] then some 0 else badFrom 0 ds
/-! rows: a key's worth and end -/
abbrev Rw := Int → Option (Int × Int)
def Rw.set (f : Rw) (k : Int) (x : Option (Int × Int)) : Rw := fun j => if j = k then x else f j
def shB (e m : Int) : Bool := decide (e = 0) || decide (m < e)
def seen (m : Int) (f : Rw) (k : Int) : Option Int := match f k with
  | none => none
  | some (w, e) => if shB e m = true then some w else none
def step (m : Int) (f : Rw) : Dd → Option Rw
  | .put k w l => some (f.set k (some (w, if l = 0 then 0 else m + l)))
  | .drop k => some (f.set k none)
  | .add k x => match f k with
    | none => none
    | some (w, e) => if shB e m = true ∧ inB 0 999 (w + x) = true then some (f.set k (some (w + x, e))) else none
  | .iff k w => if seen m f k = w then some f else none
def steps (m : Int) : Rw → List Dd → Option Rw
  | f, [] => some f
  | f, d :: ds => match step m f d with
    | none => none
    | some g => steps m g ds
/-! entries -/
inductive En where
  | deal (h : Int) (ds : List Dd)
  | tick (t : Int)
  | odd
inductive Er where
  | hand
  | key
  | entry
  | deal (p : Nat)
structure Tb where
  rows : Rw
  mom : Int
def Tb.new : Tb := ⟨fun _ => none, 0⟩
def En.bad (m : Int) : En → Option Er
  | .deal h ds => if inB 0 3 h = true then (match dealBad ds with | none => none | some p => some (.deal p)) else some .hand
  | .tick t => if inB (m + 1) 1000000 t = true then none else some .entry
  | .odd => some .entry
def Tb.next (s : Tb) : En → Tb
  | .deal _ ds => ⟨match steps s.mom s.rows ds with | none => s.rows | some g => g, s.mom⟩
  | .tick t => ⟨s.rows, t⟩
  | .odd => s
/-- the tables behind none, one, .. of the entries -/
def tbs (s : Tb) : List En → List Tb
  | [] => [s]
  | e :: es => s :: tbs (s.next e) es
def lastT (s : Tb) (es : List En) : Tb := es.foldl Tb.next s
/-- the first entry that can't be -/
def badE (s : Tb) : List En → Option Er
  | [] => none
  | e :: es => match e.bad s.mom with
    | some r => some r
    | none => badE (s.next e) es
structure Rd where
  hand : Int
  num : Int
  key : Int
  worth : Option Int
def Rd.vs (r : Rd) : List V := [.int r.hand, .int r.num, .int r.key, oV r.worth]
def Rd.bad (r : Rd) : Option Er := if inB 0 3 r.hand = true then (if inB 0 31 r.key = true then none else some .key) else some .hand
def badR : List Rd → Option Er
  | [] => none
  | r :: rs => match r.bad with
    | some e => some e
    | none => badR rs
def okW : Option Int → Bool
  | none => true
  | some w => inB 0 999 w
abbrev Ls := Int → Int
def Ls.set (l : Ls) (h n : Int) : Ls := fun j => if j = h then n else l j
def fits (T : List Tb) (l : Ls) (r : Rd) : Bool := inB (l r.hand) (T.length - 1) r.num && (match T[r.num.toNat]? with
  | none => false
  | some t => okW r.worth && decide (seen t.mom t.rows r.key = r.worth))
def dueFrom (T : List Tb) (l : Ls) (i : Nat) : List Rd → Option Nat
  | [] => none
  | r :: rs => if fits T l r = true then dueFrom T (l.set r.hand r.num) (i + 1) rs else some i
def due (T : List Tb) (rs : List Rd) : Option Nat := dueFrom T (fun _ => 0) 0 rs
theorem tbs_length (s : Tb) (es : List En) : (tbs s es).length = es.length + 1 := by
  induction es generalizing s with
  | nil => rfl
  | cons e es ih => simp [tbs, ih]
theorem tbs_snoc (s : Tb) (es : List En) (e : En) : tbs s (es ++ [e]) = tbs s es ++ [(lastT s es).next e] := by
  induction es generalizing s with
  | nil => rfl
  | cons a es ih => simp only [List.cons_append, tbs, ih, lastT, List.foldl_cons]
theorem lastT_snoc (s : Tb) (es : List En) (e : En) : lastT s (es ++ [e]) = (lastT s es).next e := by simp [lastT]
theorem tbs_at (s : Tb) (es : List En) (i : Nat) (h : i ≤ es.length) : (tbs s es)[i]? = some (lastT s (es.take i)) := by
  induction es generalizing s i with
  | nil =>
    have : i = 0 := by simpa using h
    subst this
    rfl
  | cons e es ih =>
    cases i with
    | zero => rfl
    | succ i =>
      simp only [tbs, List.getElem?_cons_succ, List.take_succ_cons, lastT, List.foldl_cons]
      exact ih _ _ (by simpa using h)
theorem badE_app {s : Tb} {es fs : List En} (h : badE s es = none) : badE s (es ++ fs) = badE (lastT s es) fs := by
  induction es generalizing s with
  | nil => rfl
  | cons e es ih =>
    simp only [badE] at h
    simp only [List.cons_append, badE, lastT, List.foldl_cons]
    cases q : e.bad s.mom with
    | some r => rw [q] at h; cases h
    | none =>
      rw [q] at h
      exact ih h
theorem badR_app {rs qs : List Rd} (h : badR rs = none) : badR (rs ++ qs) = badR qs := by
  induction rs with
  | nil => rfl
  | cons r rs ih =>
    simp only [badR] at h
    simp only [List.cons_append, badR]
    cases q : r.bad with
    | some e => rw [q] at h; cases h
    | none =>
      rw [q] at h
      exact ih h
theorem inB_t {lo hi n : Int} : inB lo hi n = true ↔ lo ≤ n ∧ n ≤ hi := by simp [inB]
theorem shB_t {e m : Int} : shB e m = true ↔ e = 0 ∨ m < e := by simp [shB]
end S02

set_option Elab.async false
set_option linter.all false
set_option maxRecDepth 100000
set_option maxHeartbeats 4000000
/-! ### deals as texts: pure facts -/
namespace S02
open PySem PySem.Spec PyProof.Rows L2 K5 TL
def nS (i : Int) : Str := Str.ofString (toString i)
def pS : V → Str
  | .str x => x
  | .int n => nS n
  | _ => "-"
def deedS (d : Dd) : Str := Str.join " " (d.vs.map pS)
def headS (h x : Int) : Str := nS h ++ " " ++ nS x
def tailS (ds : List Dd) : Str := Str.join "; " (ds.map deedS)
def rowS (h x : Int) (ds : List Dd) : Str := headS h x ++ ": " ++ tailS ds
theorem nS_nat (n : Nat) : tl (nS (n : Int)) = numL n := tl_num n
theorem nS_pos {i : Int} (h : 0 ≤ i) : tl (nS i) = numL i.toNat := by
  obtain ⟨n, rfl⟩ := Int.eq_ofNat_of_zero_le h
  exact nS_nat n
theorem nS_neg {i : Int} (h : i < 0) : tl (nS i) = 45 :: numL (-i).toNat := by
  obtain ⟨n, rfl⟩ : ∃ n : Nat, i = Int.negSucc n := ⟨(-i).toNat - 1, by omega⟩
  have e : toString (Int.negSucc n) = "-" ++ toString ((n + 1 : Nat) : Int) := rfl
  unfold nS
  rw [e, tl_ofString, String.toList_append, List.map_append]
  have e2 : tl (Str.ofString (toString ((n + 1 : Nat) : Int))) = numL (n + 1) := tl_num _
  rw [tl_ofString] at e2
  rw [e2]
  rfl
def chC (c : Nat) : Prop := c = 45 ∨ (48 ≤ c ∧ c ≤ 57) ∨ (97 ≤ c ∧ c ≤ 122)
theorem chC_num {n c : Nat} (h : c ∈ numL n) : chC c := by
  by_cases a : c < 48 ∨ 57 < c
  · exact absurd h (numL_free a)
  · exact .inr (.inl (by omega))
theorem chC_nS {i : Int} {c : Nat} (h : c ∈ tl (nS i)) : chC c := by
  by_cases z : 0 ≤ i
  · rw [nS_pos z] at h
    exact chC_num h
  · rw [nS_neg (by omega)] at h
    rcases List.mem_cons.mp h with h | h
    · exact .inl h
    · exact chC_num h
theorem chC_word (d : Dd) : ∀ c ∈ tl d.word, chC c := by
  have h : ∀ (x : Str), (tl x).all (fun c => decide (97 ≤ c) && decide (c ≤ 122)) = true → ∀ c ∈ tl x, chC c := fun x h c hc => by
    have := List.all_eq_true.mp h c hc
    simp only [Bool.and_eq_true, decide_eq_true_eq] at this
    exact .inr (.inr this)
  cases d with
  | put _ _ _ => exact h ("put" : Str) (by decide +kernel)
  | drop _ => exact h ("drop" : Str) (by decide +kernel)
  | add _ _ => exact h ("add" : Str) (by decide +kernel)
  | iff _ _ => exact h ("if" : Str) (by decide +kernel)
theorem chC_oV (x : Option Int) : ∀ c ∈ tl (pS (oV x)), chC c := by
  cases x with
  | none =>
    intro c hc
    have : c ∈ [45] := hc
    exact .inl (List.mem_singleton.mp this)
  | some i => exact fun c hc => chC_nS hc
/-- the signs of a deed's parts -/
theorem chC_parts (d : Dd) : ∀ v ∈ d.vs, ∀ c ∈ tl (pS v), chC c := by
  intro v hv
  rcases List.mem_cons.mp hv with rfl | hv
  · exact chC_word d
  · cases d with
    | put k w l =>
      rcases List.mem_cons.mp hv with rfl | hv
      · exact fun c hc => chC_nS hc
      rcases List.mem_cons.mp hv with rfl | hv
      · exact fun c hc => chC_nS hc
      rw [List.mem_singleton.mp hv]
      exact fun c hc => chC_nS hc
    | drop k =>
      rw [List.mem_singleton.mp hv]
      exact fun c hc => chC_nS hc
    | add k m =>
      rcases List.mem_cons.mp hv with rfl | hv
      · exact fun c hc => chC_nS hc
      rw [List.mem_singleton.mp hv]
      exact fun c hc => chC_nS hc
    | iff k w =>
      rcases List.mem_cons.mp hv with rfl | hv
      · exact fun c hc => chC_nS hc
      rw [List.mem_singleton.mp hv]
      exact chC_oV w
theorem joinL_mem {S : List Nat} {c : Nat} : ∀ {ps : List (List Nat)}, c ∈ joinL S ps → c ∈ S ∨ ∃ p ∈ ps, c ∈ p
  | [], h => by cases h
  | [p], h => .inr ⟨p, List.mem_singleton.mpr rfl, h⟩
  | p :: q :: r, h => by
    have h : c ∈ p ++ (S ++ joinL S (q :: r)) := h
    rcases List.mem_append.mp h with h | h
    · exact .inr ⟨p, List.mem_cons_self, h⟩
    rcases List.mem_append.mp h with h | h
    · exact .inl h
    rcases joinL_mem h with h | ⟨p', hp, h⟩
    · exact .inl h
    · exact .inr ⟨p', List.mem_cons_of_mem _ hp, h⟩
theorem joinL_len {S : List Nat} {m : Nat} : ∀ {ps : List (List Nat)}, (∀ p ∈ ps, p.length ≤ m) → (joinL S ps).length ≤ ps.length * (m + S.length)
  | [], _ => Nat.zero_le _
  | [p], h => by
    have := h p (List.mem_singleton.mpr rfl)
    show p.length ≤ 1 * (m + S.length)
    omega
  | p :: q :: r, h => by
    have h1 := h p List.mem_cons_self
    have h2 := joinL_len (S := S) (ps := q :: r) fun p' hp => h p' (List.mem_cons_of_mem _ hp)
    show (p ++ (S ++ joinL S (q :: r))).length ≤ ((q :: r).length + 1) * (m + S.length)
    rw [List.length_append, List.length_append, Nat.succ_mul]
    omega
/-- the signs of a deed -/
theorem chC_deed {d : Dd} {c : Nat} (h : c ∈ tl (deedS d)) : chC c ∨ c = 32 := by
  unfold deedS at h
  rw [tl_join] at h
  rcases joinL_mem h with h | ⟨p, hp, h⟩
  · exact .inr (List.mem_singleton.mp (show c ∈ [32] from h))
  · rw [List.map_map] at hp
    obtain ⟨v, hv, rfl⟩ := List.mem_map.mp hp
    exact .inl (chC_parts d v hv c h)
theorem split_deed (d : Dd) : Txt.split (deedS d) " " = d.vs.map pS := by
  unfold deedS
  rw [← join_eq]
  refine split_join (s := 32) (S := []) rfl (by decide +kernel) (by unfold Dd.vs; simp) fun p hp => ?_
  obtain ⟨v, hv, rfl⟩ := List.mem_map.mp hp
  intro h
  have := chC_parts d v hv 32 h
  unfold chC at this
  omega
theorem split_tail {ds : List Dd} (h : ds ≠ []) : Txt.split (tailS ds) "; " = ds.map deedS := by
  unfold tailS
  rw [← join_eq]
  refine split_join (s := 59) (S := [32]) rfl (by decide +kernel) (by simpa using h) fun p hp => ?_
  obtain ⟨d, _, rfl⟩ := List.mem_map.mp hp
  intro h
  have := chC_deed h
  unfold chC at this
  omega
theorem headS_join (h x : Int) : headS h x = Txt.join " " [nS h, nS x] := by
  rw [join_eq]
  rfl
theorem split_head (h x : Int) : Txt.split (headS h x) " " = [nS h, nS x] := by
  rw [headS_join]
  refine split_join (s := 32) (S := []) rfl (by decide +kernel) (by simp) fun p hp => ?_
  have hh : ∀ i : Int, 32 ∉ tl (nS i) := fun i h => by
    have := chC_nS h
    unfold chC at this
    omega
  rcases List.mem_cons.mp hp with rfl | hp
  · exact hh _
  · rw [List.mem_singleton.mp hp]; exact hh _
theorem chC_head {h x : Int} {c : Nat} (hc : c ∈ tl (headS h x)) : chC c ∨ c = 32 := by
  unfold headS at hc
  rw [tl_append, tl_append] at hc
  rcases List.mem_append.mp hc with hc | hc
  · rcases List.mem_append.mp hc with hc | hc
    · exact .inl (chC_nS hc)
    · exact .inr (List.mem_singleton.mp (show c ∈ [32] from hc))
  · exact .inl (chC_nS hc)
theorem part_row (h x : Int) (ds : List Dd) : Txt.partition (rowS h x ds) ": " = (headS h x, (": " : Str), tailS ds) := by
  unfold rowS
  refine partition_app (s := 58) (S := [32]) rfl fun hc => ?_
  have := chC_head hc
  unfold chC at this
  omega
theorem chC_row {h x : Int} {ds : List Dd} {c : Nat} (hc : c ∈ tl (rowS h x ds)) : c ≠ 10 := by
  unfold rowS at hc
  rw [tl_append, tl_append] at hc
  rcases List.mem_append.mp hc with hc | hc
  · rcases List.mem_append.mp hc with hc | hc
    · have := chC_head hc
      unfold chC at this
      omega
    · have : c ∈ [58, 32] := hc
      simp only [List.mem_cons, List.not_mem_nil, or_false] at this
      omega
  · unfold tailS at hc
    rw [tl_join] at hc
    rcases joinL_mem hc with hc | ⟨p, hp, hc⟩
    · have : c ∈ [59, 32] := hc
      simp only [List.mem_cons, List.not_mem_nil, or_false] at this
      omega
    · rw [List.map_map] at hp
      obtain ⟨d, _, rfl⟩ := List.mem_map.mp hp
      have := chC_deed hc
      unfold chC at this
      omega
/-- rows of text -/
theorem split_rows {rs : List Str} (hne : rs ≠ []) (h : ∀ r ∈ rs, 10 ∉ tl r) : Txt.split (Str.join "\n" rs) "\n" = rs := by
  rw [← join_eq]
  exact split_join (s := 10) (S := []) rfl (by decide +kernel) hne h
/-! lengths -/
theorem nS_len {i : Int} (h : -10000 < i) (h2 : i < 10000) : (tl (nS i)).length ≤ 5 := by
  by_cases z : 0 ≤ i
  · rw [nS_pos z]
    exact Nat.le_trans (numL_len (k := 4) (by decide) (by omega)) (by decide)
  · rw [nS_neg (by omega), List.length_cons]
    have := numL_len (n := (-i).toNat) (k := 4) (by decide) (by omega)
    omega
theorem inB_le {a b n : Int} (h : inB a b n = true) : a ≤ n ∧ n ≤ b := by
  unfold inB at h
  simpa only [Bool.and_eq_true, decide_eq_true_eq] using h
/-- the parts of a deed that can be: small numbers -/
theorem parts_small {d : Dd} (h : d.ok = true) : ∀ v ∈ d.parts, (∃ i : Int, v = .int i ∧ -1000 < i ∧ i ≤ 1000) ∨ v = .non := by
  cases d with
  | put k w l =>
    have h : (inB 0 31 k && (inB 0 999 w && inB 0 1000 l)) = true := by simpa [Dd.ok, Bool.and_assoc] using h
    simp only [Bool.and_eq_true] at h
    obtain ⟨h1, h2, h3⟩ := h
    have h1 := inB_le h1; have h2 := inB_le h2; have h3 := inB_le h3
    intro v hv
    simp only [Dd.parts, List.mem_cons, List.not_mem_nil, or_false] at hv
    rcases hv with rfl | rfl | rfl
    · exact .inl ⟨_, rfl, by omega, by omega⟩
    · exact .inl ⟨_, rfl, by omega, by omega⟩
    · exact .inl ⟨_, rfl, by omega, by omega⟩
  | drop k =>
    have h1 := inB_le (show inB 0 31 k = true from by simpa [Dd.ok] using h)
    intro v hv
    simp only [Dd.parts, List.mem_cons, List.not_mem_nil, or_false] at hv
    subst hv
    exact .inl ⟨_, rfl, by omega, by omega⟩
  | add k m =>
    have h : (inB 0 31 k && inB (-999) 999 m) = true := by simpa [Dd.ok] using h
    simp only [Bool.and_eq_true] at h
    obtain ⟨h1, h2⟩ := h
    have h1 := inB_le h1; have h2 := inB_le h2
    intro v hv
    simp only [Dd.parts, List.mem_cons, List.not_mem_nil, or_false] at hv
    rcases hv with rfl | rfl
    · exact .inl ⟨_, rfl, by omega, by omega⟩
    · exact .inl ⟨_, rfl, by omega, by omega⟩
  | iff k w =>
    intro v hv
    simp only [Dd.parts, List.mem_cons, List.not_mem_nil, or_false] at hv
    cases w with
    | none =>
      have h1 := inB_le (show inB 0 31 k = true from by simpa [Dd.ok] using h)
      rcases hv with rfl | rfl
      · exact .inl ⟨_, rfl, by omega, by omega⟩
      · exact .inr rfl
    | some w =>
      have h : (inB 0 31 k && inB 0 999 w) = true := by simpa [Dd.ok] using h
      simp only [Bool.and_eq_true] at h
      obtain ⟨h1, h2⟩ := h
      have h1 := inB_le h1; have h2 := inB_le h2
      rcases hv with rfl | rfl
      · exact .inl ⟨_, rfl, by omega, by omega⟩
      · exact .inl ⟨_, rfl, by omega, by omega⟩
theorem word_len (d : Dd) : (tl d.word).length ≤ 5 := by
  cases d with
  | put _ _ _ => exact (by decide +kernel : (tl ("put" : Str)).length ≤ 5)
  | drop _ => exact (by decide +kernel : (tl ("drop" : Str)).length ≤ 5)
  | add _ _ => exact (by decide +kernel : (tl ("add" : Str)).length ≤ 5)
  | iff _ _ => exact (by decide +kernel : (tl ("if" : Str)).length ≤ 5)
theorem part_len {d : Dd} (h : d.ok = true) : ∀ v ∈ d.vs, (tl (pS v)).length ≤ 5 := fun v hv => by
  rcases List.mem_cons.mp hv with rfl | hv
  · exact word_len d
  · rcases parts_small h v hv with ⟨i, rfl, h1, h2⟩ | rfl
    · exact nS_len (by omega) (by omega)
    · exact (by decide +kernel : (tl ("-" : Str)).length ≤ 5)
theorem vs_len (d : Dd) : d.vs.length ≤ 4 := by cases d <;> simp [Dd.vs, Dd.parts]
theorem deed_len {d : Dd} (h : d.ok = true) : (tl (deedS d)).length ≤ 24 := by
  unfold deedS
  rw [tl_join]
  refine Nat.le_trans (joinL_len (m := 5) fun p hp => ?_) ?_
  · rw [List.map_map] at hp
    obtain ⟨v, hv, rfl⟩ := List.mem_map.mp hp
    exact part_len h v hv
  · rw [List.length_map, List.length_map]
    exact Nat.le_trans (Nat.mul_le_mul_right _ (vs_len d)) (by decide)
theorem tail_len {ds : List Dd} (h : ∀ d ∈ ds, d.ok = true) (l : ds.length ≤ 4) : (tl (tailS ds)).length ≤ 104 := by
  unfold tailS
  rw [tl_join]
  refine Nat.le_trans (joinL_len (m := 24) fun p hp => ?_) ?_
  · rw [List.map_map] at hp
    obtain ⟨d, hd, rfl⟩ := List.mem_map.mp hp
    exact deed_len (h d hd)
  · rw [List.length_map, List.length_map]
    exact Nat.le_trans (Nat.mul_le_mul_right _ l) (by decide)
theorem head_len {h x : Int} (h0 : 0 ≤ h) (h3 : h < 10000) (x0 : 0 ≤ x) (x1 : x < 10000) : (tl (headS h x)).length ≤ 11 := by
  unfold headS
  rw [tl_append, tl_append, List.length_append, List.length_append]
  have h1 := nS_len (i := h) (by omega) (by omega)
  have h2 := nS_len (i := x) (by omega) (by omega)
  have h3 : (tl (" " : Str)).length = 1 := by decide +kernel
  omega
theorem row_len {h x : Int} {ds : List Dd} (h0 : 0 ≤ h) (h3 : h < 10000) (x0 : 0 ≤ x) (x1 : x < 10000) (hd : ∀ d ∈ ds, d.ok = true) (l : ds.length ≤ 4) : (tl (rowS h x ds)).length ≤ 117 := by
  unfold rowS
  rw [tl_append, tl_append, List.length_append, List.length_append]
  have h1 := head_len h0 h3 x0 x1
  have h2 := tail_len hd l
  have h3 : (tl (": " : Str)).length = 2 := by decide +kernel
  omega
theorem num_back {n : Nat} (h : n < 10000) : intText? (nS (n : Int)) = some (n : Int) := int_num (Nat.le_trans (numL_len (k := 4) (by decide) h) (by decide))
end S02

set_option Elab.async false
set_option linter.all false
set_option maxRecDepth 100000
set_option maxHeartbeats 1000000
/-! ### What stands in the heap -/
namespace S02
open PySem PySem.Spec PyProof.Rows L2 K5 SupX
theorem paired_at {α β : Type} {R : α → β → Prop} {xs : List α} {ys : List β} (h : Paired R xs ys) {i : Nat} {x : α} (e : xs[i]? = some x) : ∃ y, ys[i]? = some y ∧ R x y := by
  induction h generalizing i with
  | nil => cases e
  | cons r _ ih =>
    cases i with
    | zero =>
      cases e
      exact ⟨_, rfl, r⟩
    | succ i => exact ih e
theorem paired_to {α β : Type} {R : α → β → Prop} {xs : List α} {ys : List β} (h : Paired R xs ys) {i : Nat} {y : β} (e : ys[i]? = some y) : ∃ x, xs[i]? = some x ∧ R x y := by
  induction h generalizing i with
  | nil => cases e
  | cons r _ ih =>
    cases i with
    | zero =>
      cases e
      exact ⟨_, rfl, r⟩
    | succ i => exact ih e
theorem paired_take {α β : Type} {R : α → β → Prop} {xs : List α} {ys : List β} (h : Paired R xs ys) (n : Nat) : Paired R (xs.take n) (ys.take n) := by
  induction h generalizing n with
  | nil => cases n <;> exact .nil
  | cons r _ ih =>
    cases n with
    | zero => exact .nil
    | succ n => exact .cons r (ih n)
theorem paired_drop {α β : Type} {R : α → β → Prop} {xs : List α} {ys : List β} (h : Paired R xs ys) (n : Nat) : Paired R (xs.drop n) (ys.drop n) := by
  induction h generalizing n with
  | nil => cases n <;> exact .nil
  | cons r t ih =>
    cases n with
    | zero => exact .cons r t
    | succ n => exact ih n
theorem paired_app {α β : Type} {R : α → β → Prop} {xs xs2 : List α} {ys ys2 : List β} (h : Paired R xs ys) (h2 : Paired R xs2 ys2) : Paired R (xs ++ xs2) (ys ++ ys2) := by
  induction h with
  | nil => exact h2
  | cons r _ ih => exact .cons r ih
theorem kp_fresh {F F' : Addr → Prop} {H G : Hp} (k : Kp F H G) (n : ∀ b, F b → H b = none) : Kp F' H G := fun b o e _ => k b o e fun _ z => by rw [n b z] at e; cases e
theorem take_snoc {α : Type} {xs : List α} {i : Nat} {x : α} (h : xs[i]? = some x) : xs.take (i + 1) = xs.take i ++ [x] := by
  rw [List.take_succ, h]
  rfl
def DdAt (H : Hp) (v : V) (d : Dd) : Prop := ∃ a, v = .ref a ∧ H a = some (.tup d.vs)
def DsAt (H : Hp) (v : V) (ds : List Dd) : Prop := ∃ a xs, v = .ref a ∧ H a = some (.tup xs) ∧ Paired (DdAt H) xs ds ∧ ds.length ≤ 10000000
def RwAt (H : Hp) (a : Addr) (f : Rw) (n : Nat) : Prop := ∃ kvs, H a = some (.dK kvs) ∧ kvs.length ≤ n ∧ ∀ k : Int, match f k with
  | none => valV kvs (.inl k : Key) = none
  | some (w, e) => ∃ t, valV kvs (.inl k : Key) = some (.ref t) ∧ H t = some (.tup [.int w, .int e])
def EnAt (H : Hp) (v : V) : En → Prop
  | .deal h ds => ∃ a dv, v = .ref a ∧ H a = some (.tup [.str "deal", .int h, dv]) ∧ DsAt H dv ds
  | .tick t => ∃ a, v = .ref a ∧ H a = some (.tup [.str "tick", .int t])
  | .odd => ∃ a xs, v = .ref a ∧ H a = some (.tup xs) ∧ (xs = [] ∨ xs = [.str "tick"] ∨ ∃ dv ds, xs = [.str "Deal", .int 0, dv] ∧ DsAt H dv ds)
def RdAt (H : Hp) (v : V) (r : Rd) : Prop := ∃ a, v = .ref a ∧ H a = some (.tup r.vs)
section
variable {F : Addr → Prop} {H G : Hp}
theorem DdAt.kt (k : Kt F H G) {v : V} {d : Dd} (h : DdAt H v d) : DdAt G v d := let ⟨a, e, q⟩ := h; ⟨a, e, k.tup q⟩
theorem DsAt.kt (k : Kt F H G) {v : V} {ds : List Dd} (h : DsAt H v ds) : DsAt G v ds := let ⟨a, xs, e, q, p, l⟩ := h; ⟨a, xs, e, k.tup q, p.mono fun _ _ z => z.kt k, l⟩
theorem RwAt.kt (k : Kt F H G) {a : Addr} {f : Rw} {n : Nat} (h : RwAt H a f n) (nf : ¬ F a) : RwAt G a f n := by
  obtain ⟨kvs, e, l, q⟩ := h
  refine ⟨kvs, k.dK e nf, l, fun j => ?_⟩
  have := q j
  cases hf : f j with
  | none =>
    rw [hf] at this
    exact this
  | some p =>
    obtain ⟨w, e⟩ := p
    rw [hf] at this
    obtain ⟨t, h1, h2⟩ := this
    exact ⟨t, h1, k.tup h2⟩
theorem RwAt.le {a : Addr} {f : Rw} {n m : Nat} (h : RwAt H a f n) (l : n ≤ m) : RwAt H a f m := let ⟨kvs, e, q, r⟩ := h; ⟨kvs, e, Nat.le_trans q l, r⟩
theorem EnAt.kt (k : Kt F H G) {v : V} : ∀ {e : En}, EnAt H v e → EnAt G v e
  | .deal _ _, ⟨a, dv, e, q, d⟩ => ⟨a, dv, e, k.tup q, d.kt k⟩
  | .tick _, ⟨a, e, q⟩ => ⟨a, e, k.tup q⟩
  | .odd, ⟨a, xs, e, q, .inl z⟩ => ⟨a, xs, e, k.tup q, .inl z⟩
  | .odd, ⟨a, xs, e, q, .inr (.inl z)⟩ => ⟨a, xs, e, k.tup q, .inr (.inl z)⟩
  | .odd, ⟨a, xs, e, q, .inr (.inr ⟨dv, ds, z, d⟩)⟩ => ⟨a, xs, e, k.tup q, .inr (.inr ⟨dv, ds, z, d.kt k⟩)⟩
theorem RdAt.kt (k : Kt F H G) {v : V} {r : Rd} (h : RdAt H v r) : RdAt G v r := let ⟨a, e, q⟩ := h; ⟨a, e, k.tup q⟩
end
section
variable {α : Type} [DecidableEq α] {kvs : List (α × V)}
theorem valV_drop (kvs : List (α × V)) (k j : α) : valV (dropK kvs k) j = if j = k then none else valV kvs j := by
  unfold valV dropK
  induction kvs with
  | nil => simp
  | cons p ps ih =>
    by_cases hp : p.1 = k
    · rw [List.filter_cons_of_neg (by simp [hp]), ih]
      by_cases hj : j = k
      · rw [if_pos hj, if_pos hj]
      · rw [if_neg hj, if_neg hj, List.find?_cons_of_neg (by simpa using fun z => hj (z.symm.trans hp))]
    · rw [List.filter_cons_of_pos (by simp [hp])]
      by_cases hj : p.1 = j
      · rw [List.find?_cons_of_pos (by simp [hj]), List.find?_cons_of_pos (by simp [hj]), if_neg (fun z => hp (hj.trans z))]
      · rw [List.find?_cons_of_neg (by simpa using hj), List.find?_cons_of_neg (by simpa using hj)]
        exact ih
theorem dropK_len (kvs : List (α × V)) (k : α) : (dropK kvs k).length ≤ kvs.length := List.length_filter_le _ _
end
theorem sz (n : Nat) (h : n ≤ 16777216) : n ≤ sizeLine := by rw [sizeLine_eq]; exact h
theorem szL {n : Nat} (h : n ≤ 16000) : n < sizeLine := by rw [sizeLine_eq]; omega
section
variable {H : Hp} {a : Addr} {f : Rw} {n : Nat}
/-- a key is stored -/
theorem RwAt.put {kvs : List (Key × V)} {k w e : Int} {t : Addr} (h : RwAt H a f n) (hd : H a = some (.dK kvs)) (ht : H t = some (.tup [.int w, .int e])) : RwAt (upd H a (.dK (putK kvs (.inl k) (.ref t)))) a (f.set k (some (w, e))) (n + 1) := by
  obtain ⟨kv2, e1, l, q⟩ := h
  obtain rfl : kvs = kv2 := by rw [e1] at hd; cases hd; rfl
  have nt : ∀ {t : Addr} {xs : List V}, H t = some (.tup xs) → t ≠ a := fun h => ne_of h e1 (by intro z; cases z)
  refine ⟨_, upd_same, Nat.le_trans (length_putK _ _ _) (by omega), fun j => ?_⟩
  rw [valV_put]
  unfold Rw.set
  by_cases hj : j = k
  · rw [if_pos hj, if_pos (by rw [hj])]
    exact ⟨t, rfl, by rw [upd_ne (nt ht)]; exact ht⟩
  · rw [if_neg hj, if_neg (fun z => hj (Sum.inl.inj z))]
    have := q j
    cases hf : f j with
    | none =>
      rw [hf] at this
      exact this
    | some p =>
      obtain ⟨w', e'⟩ := p
      rw [hf] at this
      obtain ⟨t', h1, h2⟩ := this
      exact ⟨t', h1, by rw [upd_ne (nt h2)]; exact h2⟩
theorem RwAt.del {kvs : List (Key × V)} {k : Int} (h : RwAt H a f n) (hd : H a = some (.dK kvs)) : RwAt (upd H a (.dK (dropK kvs (.inl k)))) a (f.set k none) n := by
  obtain ⟨kv2, e1, l, q⟩ := h
  obtain rfl : kvs = kv2 := by rw [e1] at hd; cases hd; rfl
  refine ⟨_, upd_same, Nat.le_trans (dropK_len _ _) l, fun j => ?_⟩
  rw [valV_drop]
  unfold Rw.set
  by_cases hj : j = k
  · rw [if_pos hj, if_pos (by rw [hj])]
  · rw [if_neg hj, if_neg (fun z => hj (Sum.inl.inj z))]
    have := q j
    cases hf : f j with
    | none =>
      rw [hf] at this
      exact this
    | some p =>
      obtain ⟨w', e'⟩ := p
      rw [hf] at this
      obtain ⟨t', h1, h2⟩ := this
      exact ⟨t', h1, by rw [upd_ne (ne_of h2 e1 (by intro z; cases z))]; exact h2⟩
theorem set_none {k : Int} (h : f k = none) : f.set k none = f := funext fun j => by
  unfold Rw.set
  by_cases hj : j = k
  · rw [if_pos hj, hj, h]
  · rw [if_neg hj]
end
end S02

set_option Elab.async false
set_option linter.all false
set_option maxRecDepth 100000
set_option maxHeartbeats 1000000
namespace S02
open PySem PySem.Spec PyProof.Rows L2 K5 SupX
section
variable {P : Program} {w : World} {K : PySem.W.Frag} {mg : Str → Option Value} {base : Heap} {A : Ad}
/-! ### within -/
theorem scwithin : FnScope ["number", "low", "high"] ["number", "low", "high"] (defScope s_within) := ⟨rfl, rfl, rfl, by decide +kernel, rfl, by decide +kernel, by decide +kernel⟩
/-- of a number; of None -/
def spWithin : Sp := fun vs H Q _ => ∃ (v : V) (lo hi : Int), vs = [v, .int lo, .int hi] ∧ ((∃ n, v = .int n ∧ Q (.bl (inB lo hi n)) H) ∨ (v = .non ∧ Q (.bl false) H))
theorem ok_within (T : Txt K mg A) : ∃ fd, FnOk P w K mg base CX0 1 (A.d 18) fd ["number", "low", "high"] spWithin ∧ Binds K fd ["number", "low", "high"] [] := by
  obtain ⟨fd, F⟩ := T.within.fn
  refine ⟨fd, F.ok scwithin (fun vs H Q E h => ?_) (fun cdv A outer s H vs Q E hr h => ?_), F.binds fun _ _ _ _ _ _ us hl => match us, hl with | [_, _, _], _ => rfl⟩
  · obtain ⟨v, lo, hi, rfl, _⟩ := h
    rfl
  · obtain ⟨v, lo, hi, rfl, k⟩ := h
    refine ⟨_, (pss_one (ps_ret (pe_and (pe_callB call_isi (by rfl) T.isinstance (by decide +kernel) (pa_cons (pv 0) (pa_cons (pe_bltn (v := .ty "int") (by rfl) T.int (by decide +kernel) rfl) pa_nil))) (pe_and (pe_not (pe_callB call_isi (by rfl) T.isinstance (by decide +kernel) (pa_cons (pv 0) (pa_cons (pe_bltn (v := .ty "bool") (by rfl) T.bool (by decide +kernel) rfl) pa_nil)))) (pe_one (pe_chain op_le op_le (pv 1) (pv 0) (pv 2))))))), ?_⟩
    rcases k with ⟨n, rfl, k⟩ | ⟨rfl, k⟩
    · refine ⟨_, rfl, _, _, _, _, true, rfl, .ty "int", .base (.int n), by rfl, true, rfl, iteT ?_⟩
      refine ⟨_, rfl, _, _, _, _, false, rfl, .ty "bool", .base (.int n), by rfl, false, rfl, true, rfl, iteT ?_⟩
      refine ⟨_, rfl, _, rfl, _, _, rfl, rfl, _, rfl, ?_⟩
      unfold inB at k
      by_cases h1 : lo ≤ n
      · rw [decide_eq_true h1] at k ⊢
        rw [Bool.true_and] at k
        exact iteT ⟨_, rfl, _, _, rfl, rfl, k⟩
      · rw [decide_eq_false h1] at k ⊢
        rw [Bool.false_and] at k
        exact iteF k
    · refine ⟨_, rfl, _, _, _, _, false, rfl, .ty "int", .base .non, by rfl, false, rfl, iteF ?_⟩
      exact k
/-! ### is_shown, shown_worth -/
def spShown : Sp := fun vs H Q _ => ∃ e m : Int, vs = [.int e, .int m] ∧ Q (.bl (shB e m)) H
def spWorth : Sp := fun vs H Q _ => ∃ (a : Addr) (k m : Int) (f : Rw) (n : Nat), vs = [.ref a, .int k, .int m] ∧ RwAt H a f n ∧ Q (oV (seen m f k)) H
end
end S02

set_option Elab.async false
set_option linter.all false
set_option maxRecDepth 100000
set_option maxHeartbeats 1000000
namespace S02
open PySem PySem.Spec PyProof.Rows L2 K5 SupX
section
variable {P : Program} {w : World} {K : PySem.W.Frag} {mg : Str → Option Value} {base : Heap} {A : Ad}
/-- a deed's action: rows at a, the parts at p, the moment -/
def spAct (wd : Str) : Sp := fun vs H Q _ => ∃ (a p : Addr) (m : Int) (f : Rw) (n : Nat) (d : Dd), vs = [.ref a, .ref p, .int m] ∧ d.word = wd ∧ RwAt H a f n ∧ n ≤ 15000 ∧ H p = some (.lst d.parts) ∧
  ∀ G, Kp (fun b => b = a) H G → (step m f d = none → Q (.bl false) G) ∧ (∀ g, step m f d = some g → RwAt G a g (n + 1) → Q (.bl true) G)
theorem spAct_len {wd : Str} {vs : List V} {H : Hp} {Q : VK} {E : XK} (h : spAct wd vs H Q E) : vs.length = 3 := by
  obtain ⟨a, p, m, f, n, d, rfl, _⟩ := h
  rfl
theorem oV_eq {a b : Option Int} : decide (oV a = oV b) = decide (a = b) := by
  cases a <;> cases b <;> simp [oV]
end
end S02

set_option Elab.async false
set_option linter.all false
set_option maxRecDepth 100000
set_option maxHeartbeats 1000000
namespace S02
open PySem PySem.Spec PyProof.Rows L2 K5 SupX
/-- a comprehension over such a zip -/
theorem lc_zipM {K : PySem.W.Frag} {a : Addr} {sq : Hp → Prop} {xs ys : List V} {g : TG} {tt : TT} {te : TE} {vs : List Nat} {σ : L2.St} {H1 : Hp} {D : Addr} {Qd : Hp → Prop} (Pv : Nat → Hp → Prop) (h0 : Pv 0 (upd H1 D (.lst []))) (hq : ∀ i H, Pv i H → SqL K H a xs ∧ sq H)
    (hs : ∀ (i : Nat) (x y : V) (T : Addr) (H : Hp), xs[i]? = some x → ys[i]? = some y → Pv i H → H T = none → g (.ref T) (wipe σ vs) (upd H T (.tup [x, y])) fun σ2 H2 => wipe σ2 vs = wipe σ vs ∧ tt σ2 H2 fun b H3 =>
      if b = true then te σ2 H3 fun z H4 => ∃ acc, H4 D = some (.lst acc) ∧ acc.length < sizeLine ∧ Pv (i + 1) (upd H4 D (.lst (acc ++ [z]))) else Pv (i + 1) H3) (hd : ∀ H, Pv (min xs.length ys.length) H → Qd H) :
    ∃ W : Nat → Nat → Hp → Prop, (∃ m, W 0 m (upd H1 D (.lst []))) ∧ ∀ i m H, W i m H →
      ((ItM K a sq xs ys).stop i H ∧ Qd H) ∨ ((ItM K a sq xs ys).go i H ∧ ∃ Nx : Hp → Prop, (∀ H', Nx H' → ∃ m', m' < m ∧ W (i + 1) m' H') ∧ ∀ x H', (ItM K a sq xs ys).yld i H x H' → g x (wipe σ vs) H' fun σ2 H2 => wipe σ2 vs = wipe σ vs ∧ tt σ2 H2 fun b H3 =>
        if b = true then te σ2 H3 fun y H4 => ∃ acc, H4 D = some (.lst acc) ∧ acc.length < sizeLine ∧ Nx (upd H4 D (.lst (acc ++ [y]))) else Nx H3) := by
  refine ⟨fun i m H => m = min xs.length ys.length - i ∧ i ≤ min xs.length ys.length ∧ Pv i H, ⟨_, rfl, Nat.zero_le _, h0⟩, ?_⟩
  rintro i m H ⟨rfl, hi, p⟩
  obtain ⟨qx, qy⟩ := hq i H p
  by_cases lt : i < min xs.length ys.length
  · refine .inr ⟨⟨qx, qy, by omega, by omega⟩, Pv (i + 1), fun G p' => ⟨min xs.length ys.length - (i + 1), by omega, rfl, by omega, p'⟩, fun v G yl => ?_⟩
    obtain ⟨T, x, y, rfl, hT, rfl, e1, e2⟩ := yl
    exact hs i x y T H e1 e2 p hT
  · have e : i = min xs.length ys.length := by omega
    subst e
    exact .inl ⟨⟨qx, qy, by omega, by omega, by omega⟩, hd H p⟩
/-- a written tuple -/
def WT (K : PySem.W.Frag) (a : Addr) (xs : List V) : Prop := ∃ (o : Obj) (its : Array Value) (n : Nat), K.lookup a = some o ∧ o.cls = .type "tuple" ∧ o.data = .seq its n ∧ its.size ≤ sizeLine ∧ Vals xs its.toList
theorem WT.sq {K : PySem.W.Frag} {a : Addr} {xs : List V} (h : WT K a xs) (H : Hp) : SqT K H a xs := .inr h
def bnds : Dd → List (Int × Int)
  | .put .. => [(0, 31), (0, 999), (0, 1000)]
  | .drop .. => [(0, 31)]
  | .add .. => [(0, 31), (-999, 999)]
  | .iff .. => [(0, 31), (0, 999)]
def BndAt (K : PySem.W.Frag) (b : Addr) (l : List (Int × Int)) : Prop := ∃ as : List Addr, WT K b (as.map V.ref) ∧ Paired (fun a p => WT K a [.int p.1, .int p.2]) as l
/-- what the top has beside names -/
structure Ex (P : Program) (w : World) (K : PySem.W.Frag) (mg : Str → Option Value) (A : Ad) (B fR fI : Addr) : Prop where
  bounds : mg "BOUNDS" = some (.ref B)
  bd : ∃ es n, KDict K w B es n
  bn : ∀ d : Dd, ∃ b, PySem.W.nsIn K B d.word = some (some (.ref b)) ∧ BndAt K b (bnds d)
  bno : ∀ z : Str, (∀ d : Dd, d.word ≠ z) → PySem.W.nsIn K B z = some none
  nst : PySem.W.subIn K (.ref (A.c 12)) (.type "StopIteration") = some false
  init : InitAt P K (A.c 2) fI "BadDeal.__init__" s_BadDeal___init__
  cls : ClsAt K mg (A.c 2) "place"
  fig : ∃ t, mg "FIGURES" = some (.str "0123456789" t)
  rinit : InitAt P K (A.c 12) fR "BadText.__init__" s_BadText___init__
  rcls : ClsAt K mg (A.c 12) "row"
section
variable {P : Program} {w : World} {K : PySem.W.Frag} {mg : Str → Option Value} {base : Heap} {A : Ad} {B C fI : Addr}
abbrev Nscis_deed : List Str := ["deed", "word", "parts", "bounds", "part", "low", "high"]
theorem scis_deed : FnScope Nscis_deed ["deed"] (defScope s_is_deed) := ⟨rfl, rfl, rfl, by decide +kernel, rfl, by decide +kernel, by decide +kernel⟩
def spDeed : Sp := fun vs H Q _ => ∃ (v : V) (d : Dd), vs = [v] ∧ DdAt H v d ∧ ∀ G, Kp No H G → Q (.bl d.ok) G
theorem ok_is_deed (T : Txt K mg A) (X : Ex P w K mg A B C fI) : ∃ fd, FnOk P w K mg base CX0 2 (A.d 22) fd ["deed"] spDeed ∧ Binds K fd ["deed"] [] := by
  obtain ⟨fd, F⟩ := T.is_deed.fn
  obtain ⟨fdI, Gwithin, bwithin⟩ := ok_within (P := P) (w := w) (base := base) T
  obtain ⟨es, n, hB⟩ := X.bd
  refine ⟨fd, F.ok scis_deed (fun vs H Q E h => ?_) (fun cdv A outer s H vs Q E hr h => ?_), F.binds fun _ _ _ _ _ _ us hl => match us, hl with | [_], _ => rfl⟩
  · obtain ⟨v, d, rfl, _⟩ := h
    rfl
  · obtain ⟨v, d, rfl, ⟨a, rfl, ha⟩, k⟩ := h
    have hu := hu_of hr
    refine ⟨_, (pss_cons (ps_if (PW.pt (pw_or (pt_not (pt_val (pe_callB call_isi (by rfl) T.isinstance (by decide +kernel) (pa_cons (pv 0) (pa_cons (pe_bltn (v := .ty "tuple") (by rfl) T.tuple (by decide +kernel) rfl) pa_nil))))) (pw_or (pt_not (pt_truth (pv 0) (by intro _; rfl))) (pw_or1 (pt_cmpR (op_notIn_kd hB) (pe_ix ix_tup (pv 0) pe_int (fun _ _ => rfl)) (pe_glob (v := .ref B) rfl X.bounds rfl) rfl)))))
        (pss_one (ps_ret pe_bl))
        pss_nil)
      (pss_cons (ps_asg (pv 0) (pg_star (n := 1) rfl (pgs_cons (pg_name (i := 1) scis_deed.nd rfl (Or.inl rfl)) (pgs_star (pg_name (i := 2) scis_deed.nd rfl (Or.inl rfl))))))
      (pss_cons (ps_set (i := 3) scis_deed.nd rfl (Or.inl rfl) (pe_ix ix_kdict (pe_glob (v := .ref B) rfl X.bounds rfl) (pv 1) (fun _ _ => rfl)))
      (pss_cons (ps_if (pt_cmpR op_ne (pe_callB call_len_seq (by rfl) T.len PySem.boot_len (pa_cons (pv 2) pa_nil)) (pe_callB call_len_seq (by rfl) T.len PySem.boot_len (pa_cons (pv 3) pa_nil)) (nomark _))
        (pss_one (ps_ret pe_bl))
        pss_nil)
      (pss_cons (ps_if (PW.pt (pw_and (pt_cmpR op_eq (pv 1) pe_str (nomark _)) (pw_and1 (pt_cmp (pc_isN (pe_ix ix_list (pv 2) pe_int (fun _ _ => rfl)))))))
        (pss_one (ps_ret (pe_call Gwithin (hr.mono (by first | decide | omega)) rfl T.within.at_ T.within.kp bwithin .nil pass0 (pa_cons (pe_ix ix_list (pv 2) pe_int (fun _ _ => rfl)) (pa_cons pe_int (pa_cons (pe_glob (v := .int 31) rfl T.k_LAST_KEY.choose_spec ⟨_, rfl⟩) pa_nil))))))
        pss_nil)
      (pss_one (ps_ret (pe_callB (cr_all rfl) (by rfl) T.all (by decide +kernel) (pa_cons (pe_lc (own := [("part", 4), ("low", 5), ("high", 6)]) (g := (gTup K 2 (gCons (gName 4) (gCons (gTup K 2 (gCons (gName 5) (gCons (gName 6) gNil))) gNil)))) (by rfl) scis_deed.nd (pi_zipM (by rfl) T.zip (pa_cons (pv 2) (pa_cons (pv 3) pa_nil))) (blkOk_by (N := Nscis_deed) (sc := defScope s_is_deed) (by decide +kernel)) (fun _ _ _ _ _ => pg_tup rfl (pgs_cons (pg_name (i := 4) scis_deed.nd rfl (Or.inl rfl)) (pgs_cons (pg_tup rfl (pgs_cons (pg_name (i := 5) scis_deed.nd rfl (Or.inl rfl)) (pgs_cons (pg_name (i := 6) scis_deed.nd rfl (Or.inl rfl)) pgs_nil))) pgs_nil))) (fun _ _ _ _ _ => pts_nil) (fun _ _ _ _ _ => (pe_call Gwithin (hr.mono (by first | decide | omega)) rfl T.within.at_ T.within.kp bwithin .nil pass0 (pa_cons (pv 4) (pa_cons (pv 5) (pa_cons (pv 6) pa_nil)))))) pa_nil))))))))), ?_⟩
    obtain ⟨b, hb, as, wb, pb⟩ := X.bn d
    have kd : KDct K w B d.word (.ref b) := ⟨es, n, _, hB.at_, hB.lit, hb, rfl⟩
    have hlen : as.length = d.parts.length := by
      rw [pb.length]
      cases d <;> rfl
    refine ⟨_, rfl, .ref a, _, _, _, true, rfl, .ty "tuple", .base (.tup ha), by rfl, true, rfl, iteF ?_⟩
    refine ⟨_, rfl, true, .inr (.inl ⟨_, SqT.of ha, rfl⟩), iteF ?_⟩
    refine ⟨_, rfl, a, _, 0, .str d.word, rfl, rfl, SqT.of ha, atI_nat (j := 0) rfl, d.word, _, rfl, rfl, hb, _, rfl, iteF ?_⟩
    refine ⟨_, rfl, a, _, rfl, SqT.of ha, (by show 1 ≤ d.vs.length; simp [Dd.vs]), (by cases d <;> simp [Dd.vs, Dd.parts]), fun L hL => ?_⟩
    refine ⟨_, _, rfl, _, _, rfl, rfl, ?_⟩
    refine ⟨_, rfl, B, d.word, .ref b, rfl, rfl, kd, ?_⟩
    refine ⟨_, rfl, L, _, rfl, .inl (SqL.of upd_same), _, rfl, b, _, rfl, .inr (wb.sq _), rfl, _, rfl, ?_⟩
    have e1 : (!decide (V.int ((List.drop 1 d.vs).length : Nat) = V.int ((as.map V.ref).length : Nat))) = false := by
      rw [List.length_map, hlen]
      simp [Dd.vs]
    rw [e1]
    refine iteF ?_
    have dp : List.drop 1 d.vs = d.parts := rfl
    rw [dp]
    -- all([..])
    have main : ∀ (ns : List Int) (σ : L2.St), d.parts = ns.map V.int → d.ok = ((ns.zip (bnds d)).map fun p => inB p.2.1 p.2.2 p.1).all id → σ[2]? = some (some (.ref L)) → σ[3]? = some (some (.ref b)) → σ.length = 7 →
        tRet (tCB (rAll K) (tCons (tLc (iZipM K (tCons (tVar 2) (tCons (tVar 3) tNil))) (gTup K 2 (gCons (gName 4) (gCons (gTup K 2 (gCons (gName 5) (gCons (gName 6) gNil))) gNil))) tYes
          (tCall spWithin [] E0 (tCons (tVar 4) (tCons (tVar 5) (tCons (tVar 6) tNil)))) [4, 5, 6]) tNil)) { nx := fun _ G => Q .non G, rt := Q } σ (upd H L (.lst d.parts)) := by
      intro ns σ hp hok h2 h3 h7
      obtain ⟨s0, s1, s2, s3, s4, s5, s6, rfl⟩ : ∃ s0 s1 s2 s3 s4 s5 s6, σ = [s0, s1, s2, s3, s4, s5, s6] := by
        match σ, h7 with
        | [s0, s1, s2, s3, s4, s5, s6], _ => exact ⟨_, _, _, _, _, _, _, rfl⟩
      cases h2
      cases h3
      have lz : ns.length = (bnds d).length := by
        have := congrArg List.length hp
        rw [List.length_map] at this
        rw [← this, ← hlen, pb.length]
      have hL1 : upd H L (.lst d.parts) L = some (.lst (ns.map V.int)) := by rw [upd_same, hp]
      refine ⟨_, rfl, _, rfl, L, b, ns.map V.int, as.map V.ref, rfl, SqL.of hL1, .inr ⟨wb.sq _, fun D hD => lc_zipM (fun i G => Kp (fun c => c = D) (upd H L (.lst d.parts)) G ∧ G D = some (.lst ((((ns.zip (bnds d)).map fun p => inB p.2.1 p.2.2 p.1).map V.bl).take i))) ⟨Kp.new hD, upd_same⟩ (fun i G ⟨kp, _⟩ => ⟨SqL.of (kp.t.lst hL1 (ne_of_none hL1 hD)), wb.sq _⟩) ?_ ?_⟩⟩
      · intro i x y T G hx hy ⟨kp, hG⟩ hT
        rw [List.getElem?_map] at hx hy
        cases ex : ns[i]? with
        | none => rw [ex] at hx; cases hx
        | some n0 =>
          cases ey : as[i]? with
          | none => rw [ey] at hy; cases hy
          | some a0 =>
            rw [ex] at hx
            rw [ey] at hy
            cases hx
            cases hy
            obtain ⟨q, hq, wq⟩ := paired_at pb ey
            have hD2 := (upd_ne (o := .tup [V.int n0, V.ref a0]) (ne_of_none hG hT)).trans hG
            refine ⟨T, _, rfl, SqT.of upd_same, rfl, _, _, rfl, _, _, rfl, ⟨a0, _, rfl, wq.sq _, rfl, _, _, rfl, _, _, rfl, rfl, rfl, rfl, ?_⟩⟩
            have hb2 : ((ns.zip (bnds d)).map fun p => inB p.2.1 p.2.2 p.1)[i]? = some (inB q.1 q.2 n0) := by
              rw [List.getElem?_map, List.getElem?_zip_eq_some (z := (n0, q)) |>.mpr ⟨ex, hq⟩]
              rfl
            refine ⟨_, rfl, _, rfl, _, rfl, .int n0, q.1, q.2, rfl, .inl ⟨n0, rfl, _, hD2, szL (by have : (bnds d).length ≤ 3 := (by cases d <;> simp [bnds]); simp only [List.length_take, List.length_map, List.length_zip]; omega), ?_⟩⟩
            refine ⟨(kp.andN hT).andL hD2 rfl, ?_⟩
            · rw [upd_same, take_snoc (x := V.bl (inB q.1 q.2 n0)) (by rw [List.getElem?_map, hb2]; rfl)]
      · intro G ⟨kp, hG⟩
        refine ⟨D, (ns.zip (bnds d)).map fun p => inB p.2.1 p.2.2 p.1, rfl, SqL.of ?_, ?_⟩
        · rw [hG, List.take_of_length_le (by simp only [List.length_map, List.length_zip]; rw [pb.length]; omega)]
        · rw [← hok]
          exact k G ((Kp.new hL).trans (kp_fresh (F' := No) kp fun c z => by rw [z]; exact hD) fun _ z => False.elim z)
    refine ⟨_, rfl, rfl, _, rfl, ?_⟩
    cases d with
    | put j wt l => exact iteF (iteF (main [j, wt, l] _ rfl (by simp [Dd.ok, bnds, inB]) rfl rfl rfl))
    | drop j => exact iteF (iteF (main [j] _ rfl (by simp [Dd.ok, bnds, inB]) rfl rfl rfl))
    | add j x => exact iteF (iteF (main [j, x] _ rfl (by simp [Dd.ok, bnds, inB]) rfl rfl rfl))
    | iff j x =>
      refine iteT ⟨_, rfl, L, _, 1, oV x, rfl, rfl, SqL.of upd_same, atI_nat (j := 1) rfl, _, rfl, ?_⟩
      cases x with
      | none =>
        refine iteT ⟨_, rfl, L, _, 0, .int j, rfl, rfl, SqL.of upd_same, atI_nat (j := 0) rfl, _, 0, 31, rfl, .inl ⟨j, rfl, ?_⟩⟩
        exact k _ (Kp.new hL)
      | some x => exact iteF (main [j, x] _ rfl (by simp [Dd.ok, bnds, inB]) rfl rfl rfl)
end
end S02

set_option Elab.async false
set_option linter.all false
set_option maxRecDepth 100000
set_option maxHeartbeats 1000000
namespace S02
open PySem PySem.Spec PyProof.Rows L2 K5 SupX
/-- the layer of defs that may raise: the exception's context is None -/
theorem okN {P : Program} {w : World} {K : PySem.W.Frag} {mg : Str → Option Value} {base : Heap} {x qual : Str} {st : Stmt} {f : Addr} {fd : FuncData} {N ps : List Str} {k : Nat} {sp : Sp} (F : Fun K x qual st f fd)
    (S : FnScope N ps (defScope st)) (len : ∀ vs H Q E, sp vs H Q E → vs.length = ps.length)
    (body : ∀ (cdv : Value) (A : Around) (outer : List Env) (s : Shared) (H : Hp) (vs : List V) (Q : VK) (E : XK), Room k (A.deeper (envOfC qual (defScope st) s.heap.objs.size f cdv)) → sp vs H Q E →
      ∃ t, PSs (cxOf (L2N.CX P w) P w K mg base N qual (defScope st) f cdv A outer s H E) (defBody st) t ∧ t { nx := fun _ G => Q .non G, rt := Q } (L2.start N vs) H) :
    FnOk P w K mg base (L2N.CX P w) (k + 1) f fd ps sp := by
  obtain ⟨oc, od, kV, doc, pm, an, cdv, ct, osl, rfl, lk, hcd⟩ := F.ex
  exact fn_of lk hcd S len fun A outer s H vs Q E hr hsp => body cdv A outer s H vs Q E hr hsp
theorem str_len (a b : Str) : (a ++ b).length = a.length + b.length := by
  show (a.cps ++ b.cps).size = _
  rw [Array.size_append]
  rfl
/-- how a refusal leaves -/
def ErX (A : Ad) (E : XK) (H : Hp) : Er → Prop
  | .hand => E (.ref (A.c 3)) none H
  | .key => E (.ref (A.c 6)) none H
  | .entry => E (.ref (A.c 9999)) none H
  | .deal p => ∀ d, H d = none → E (.ref (A.c 2)) (some d) (upd H d (.xd [("place", .int (p : Nat))]))
section
variable {P : Program} {w : World} {K : PySem.W.Frag} {mg : Str → Option Value} {base : Heap} {A : Ad} {B C fI : Addr}
theorem sccheck_hand : FnScope ["hand"] ["hand"] (defScope s_check_hand) := ⟨rfl, rfl, rfl, by decide +kernel, rfl, by decide +kernel, by decide +kernel⟩
def spCk (A : Ad) (hi : Int) (r : Er) : Sp := fun vs H Q E => ∃ n : Int, vs = [.int n] ∧ (inB 0 hi n = true → Q .non H) ∧ (inB 0 hi n = false → ErX A E H r)
theorem ok_check_hand (T : Txt K mg A) : ∃ fd, FnOk P w K mg base (L2N.CX P w) 2 (A.d 21) fd ["hand"] (spCk A 3 .hand) ∧ Binds K fd ["hand"] [] := by
  obtain ⟨fd, F⟩ := T.check_hand.fn
  obtain ⟨fdW, Gwithin, bwithin⟩ := ok_within (P := P) (w := w) (base := base) T
  refine ⟨fd, okN F sccheck_hand (fun vs H Q E h => ?_) (fun cdv Ar outer s H vs Q E hr h => ?_), F.binds fun _ _ _ _ _ _ us hl => match us, hl with | [_], _ => rfl⟩
  · obtain ⟨n, rfl, _⟩ := h
    rfl
  · obtain ⟨n, rfl, k1, k2⟩ := h
    refine ⟨_, (pss_one (ps_if (pt_not (pt_val (pe_call Gwithin (hr.mono (by first | decide | omega)) rfl T.within.at_ T.within.kp bwithin .nil pass0 (pa_cons (pv 0) (pa_cons pe_int (pa_cons (pe_glob (v := .int 3) rfl T.k_LAST_HAND.choose_spec ⟨_, rfl⟩) pa_nil))))))
        (pss_one (L2N.ps_raise rfl (L2N.takes_of rfl rfl rfl rfl) (L2N.pmk_own PySem.F.excBase_ValueError T.x_BadHand.ex T.x_BadHand.at_ T.x_BadHand.kp (raises_own T.x_BadHand.sb T.x_BadHand.ty) rfl)))
        pss_nil)), ?_⟩
    refine ⟨_, rfl, .int n, 0, 3, rfl, .inl ⟨n, rfl, _, rfl, ?_⟩⟩
    cases h : inB 0 3 n with
    | true => exact iteF (k1 h)
    | false => exact iteT (k2 h)
/-! ### BadDeal's own __init__ -/
theorem sco_init : Sco "place" (defScope s_BadDeal___init__) := ⟨rfl, rfl, rfl, by decide +kernel, by decide +kernel, by decide +kernel, by decide +kernel, by decide +kernel, by decide +kernel⟩
theorem ok_init16 (T : Txt K mg A) (X : Ex P w K mg A B C fI) (htop : (P.main.scope.names.lookup ("super" : Str)).isSome = false) : ∃ fd, FnOk P w K mg base CX0 1 fI fd [("self" : Str), "place"] (spI (A.c 2) "place") ∧ Binds K fd [("self" : Str), "place"] [] := by
  refine ok_init X.init X.cls sco_init ⟨_, rfl, rfl⟩ rfl (fun Y hN hS => ?_) (fun env => ⟨_, rfl⟩) htop (by decide) (by decide) (fun kV doc pm an cl cdv ct us hl => ?_)
  · refine ⟨fun pins s σ H Q I ⟨v, h1, h2, h3⟩ => ?_⟩
    refine (pe_joined (.cons pe_str (.cons (pe_fmt (pe_var (i := 1) (x := "place") (by rw [hN]; rfl) (by rw [hS]; exact .inl (by decide +kernel)))) (.cons pe_str .nil)))).run pins s σ H Q I ?_
    obtain ⟨h2, h4⟩ := h2
    refine ⟨_, rfl, (by decide +kernel), _, h1, .inr ⟨v, rfl, h2, _, rfl, ?_, _, rfl, ?_, h3 _⟩⟩
    · rw [str_len]
      have : (Str.empty ++ ("no deal: its deed at " : Str)).length ≤ 100 := by decide +kernel
      exact sz _ (by omega)
    · rw [str_len, str_len]
      have : (Str.empty ++ ("no deal: its deed at " : Str)).length ≤ 100 := by decide +kernel
      have : (" is none" : Str).length ≤ 100 := by decide +kernel
      exact sz _ (by omega)
  · match us, hl with
    | [_, _], _ => rfl
theorem sm_small : ∀ p : Nat, p ≤ 4 → Sm (p : Int)
  | 0, _ => ⟨by decide, by decide +kernel⟩
  | 1, _ => ⟨by decide, by decide +kernel⟩
  | 2, _ => ⟨by decide, by decide +kernel⟩
  | 3, _ => ⟨by decide, by decide +kernel⟩
  | 4, _ => ⟨by decide, by decide +kernel⟩
  | n + 5, h => absurd h (by omega)
theorem badFrom_le {p : Nat} : ∀ {ds : List Dd} {i : Nat}, i ≤ 4 → badFrom i ds = some p → p ≤ 4
  | [], _, _, h => by cases h
  | d :: ds, i, hi, h => by
    unfold badFrom at h
    split at h
    · cases h
      exact hi
    · rename_i q
      exact badFrom_le (by omega) h
/-! ### check_deal -/
theorem sccheck_deal : FnScope ["deeds", "place", "deed"] ["deeds"] (defScope s_check_deal) := ⟨rfl, rfl, rfl, by decide +kernel, rfl, by decide +kernel, by decide +kernel⟩
def spCD (A : Ad) : Sp := fun vs H Q E => ∃ (v : V) (ds : List Dd), vs = [v] ∧ DsAt H v ds ∧ ∀ G, Kp No H G → (dealBad ds = none → Q .non G) ∧ ∀ p, dealBad ds = some p → ErX A E G (.deal p)
theorem ok_check_deal (T : Txt K mg A) (X : Ex P w K mg A B C fI) (htop : (P.main.scope.names.lookup ("super" : Str)).isSome = false) : ∃ fd, FnOk P w K mg base (L2N.CX P w) 3 (A.d 23) fd ["deeds"] (spCD A) ∧ Binds K fd ["deeds"] [] := by
  obtain ⟨fd, F⟩ := T.check_deal.fn
  obtain ⟨fdD, Gis_deed, bis_deed⟩ := ok_is_deed (P := P) (w := w) (base := base) T X
  obtain ⟨fdB, GB, bB⟩ := ok_init16 (P := P) (w := w) (base := base) T X htop
  refine ⟨fd, okN F sccheck_deal (fun vs H Q E h => ?_) (fun cdv Ar outer s H vs Q E hr h => ?_), F.binds fun _ _ _ _ _ _ us hl => match us, hl with | [_], _ => rfl⟩
  · obtain ⟨v, ds, rfl, _⟩ := h
    rfl
  · obtain ⟨v, ds, rfl, ⟨a, xs, rfl, ha, pa, hl⟩, k⟩ := h
    have hu := hu_of hr
    have tk : L2N.Takes (cxOf (L2N.CX P w) P w K mg base ["deeds", "place", "deed"] "check_deal" (defScope s_check_deal) (A.d 23) cdv Ar outer s H E) (fun cls d _ G => E cls d G) := L2N.takes_of rfl rfl rfl rfl
    refine ⟨_, (pss_cons (ps_if (pt_not (pt_truth (pv 0) (by intro _; rfl)))
        (pss_one (L2N.ps_raise rfl tk (pmk_sup X.cls X.init GB bB (hr.mono (by first | decide | omega)) rfl T.c_BadDeal pe_int)))
        pss_nil)
      (pss_one (ps_for PassesOwn.leaving rfl (pi_enT (by rfl) T.enumerate (pa_cons (pv 0) pa_nil)) (pg_tup rfl (pgs_cons (pg_name (i := 1) sccheck_deal.nd rfl (Or.inl rfl)) (pgs_cons (pg_name (i := 2) sccheck_deal.nd rfl (Or.inl rfl)) pgs_nil)))
        (pss_one (ps_if (PW.pt (pw_or (pt_cmpR op_eq (pv 1) (pe_glob (v := .int 4) rfl T.k_MOST_DEEDS.choose_spec ⟨_, rfl⟩) (nomark _)) (pw_or1 (pt_not (pt_val (pe_call Gis_deed (hr.mono (by first | decide | omega)) rfl T.is_deed.at_ T.is_deed.kp bis_deed .nil pass0 (pa_cons (pv 2) pa_nil)))))))
          (pss_one (L2N.ps_raise rfl tk (pmk_sup X.cls X.init GB bB (hr.mono (by first | decide | omega)) rfl T.c_BadDeal (pv 1))))
          pss_nil))))), ?_⟩
    have lx := pa.length
    refine ⟨_, rfl, !xs.isEmpty, .inr (.inl ⟨_, SqT.of ha, rfl⟩), ?_⟩
    cases ds with
    | nil =>
      cases pa
      refine iteT ⟨0, rfl, sm_small 0 (by omega), fun d hd => ?_⟩
      exact (k H (Kp.refl _ _)).2 0 rfl d hd
    | cons d0 ds0 =>
      cases xs with
      | nil => cases pa
      | cons x0 xs0 =>
      refine iteF ?_
      generalize hds : d0 :: ds0 = ds at *
      generalize hxs : x0 :: xs0 = xs at *
      have hb0 : dealBad ds = badFrom 0 ds := if_neg (by rw [← hds]; simp)
      rw [hb0] at k
      refine ⟨_, rfl, a, xs, rfl, .inr ⟨SqT.of ha, for_enT (fun i σ G => Kp No H G ∧ (∃ o1 o2, σ = [some (.ref a), o1, o2]) ∧ badFrom 0 ds = badFrom i (ds.drop i) ∧ i ≤ 4) ⟨Kp.refl _ _, ⟨none, none, rfl⟩, by rw [List.drop_zero], by omega⟩ (fun i σ G ⟨kp, _⟩ => SqT.of (kp.t.tup ha)) ?_ ?_⟩⟩
      · rintro i y U σ G hy ⟨kp, ⟨o1, o2, rfl⟩, hbd, h4⟩ hU
        obtain ⟨d, hd, dd⟩ := paired_at pa hy
        have dr : ds.drop i = d :: ds.drop (i + 1) := by
          obtain ⟨h1, h2⟩ := List.getElem?_eq_some_iff.mp hd
          rw [List.drop_eq_getElem_cons h1, h2]
        rw [dr] at hbd
        have kU : Kp No H (upd G U (.tup [.int (i : Nat), y])) := kp.andN hU
        have bad : (i = 4 ∨ d.ok = false) → badFrom 0 ds = some i := fun z => by rw [hbd]; unfold badFrom; rw [if_pos z]
        have raise : ∀ G2, Kp No H G2 → (i = 4 ∨ d.ok = false) → tMkS (A.c 2) "place" (tVar 1) [some (.ref a), some (.int (i : Nat)), some y] G2 (fun cls d H' => E cls d H') := fun G2 k2 z => ⟨_, rfl, i, rfl, sm_small i h4, fun e he => (k G2 k2).2 i (bad z) e he⟩
        refine ⟨U, _, rfl, SqT.of upd_same, rfl, _, _, rfl, _, _, rfl, rfl, ?_⟩
        refine ⟨_, rfl, rfl, _, rfl, ?_⟩
        by_cases e4 : i = 4
        · have : decide (V.int ((i : Nat) : Int) = V.int 4) = true := by rw [e4]; rfl
          rw [this]
          exact iteT (iteT (raise _ kU (.inl e4)))
        · have : decide (V.int ((i : Nat) : Int) = V.int 4) = false := by simp; omega
          rw [this]
          refine iteF ⟨_, rfl, y, d, rfl, dd.kt kU.t, fun G2 k2 => ⟨_, rfl, ?_⟩⟩
          have kp2 : Kp No H G2 := kU.trans k2 fun _ z => False.elim z
          cases hk : d.ok with
          | false => exact iteT (raise _ kp2 (.inr hk))
          | true =>
            refine iteF ⟨kp2, ⟨_, _, rfl⟩, ?_, by omega⟩
            rw [hbd]
            show badFrom i (d :: ds.drop (i + 1)) = _
            rw [badFrom, if_neg (by rw [hk]; simp [e4])]
      · rintro σ G ⟨kp, _, hbd, _⟩
        refine (k G kp).1 ?_
        rw [hbd, List.drop_of_length_le (by omega)]
        rfl
end
end S02

set_option Elab.async false
set_option linter.all false
set_option maxRecDepth 100000
namespace S02
open PySem PySem.Spec PyProof.Rows L2 K5 SupX
/-- a deal of a hand -/
structure Gd where
  hd : Int
  x : Int
  ds : List Dd
def GdAt (H : Hp) (v : V) (g : Gd) : Prop := ∃ u dv, v = .ref u ∧ H u = some (.tup [.int g.hd, .int g.x, dv]) ∧ DsAt H dv g.ds
theorem GdAt.kt {F : Addr → Prop} {H G : Hp} (k : Kt F H G) {v : V} {g : Gd} (h : GdAt H v g) : GdAt G v g := let ⟨u, dv, e, q, d⟩ := h; ⟨u, dv, e, k.tup q, d.kt k⟩
end S02

set_option Elab.async false
set_option linter.all false
set_option maxRecDepth 100000
set_option maxHeartbeats 4000000
/-! ### deals written as rows of text -/
namespace S02
open PySem PySem.Spec PyProof.Rows L2 K5 SupX GenX TL
/-- a deal of a hand that can be written -/
structure GdW (g : Gd) : Prop where
  h0 : 0 ≤ g.hd
  h3 : g.hd ≤ 3
  x0 : 0 ≤ g.x
  x9 : g.x ≤ 9999
  ok : dealBad g.ds = none
theorem badFrom_all : ∀ {ds : List Dd} {i : Nat}, badFrom i ds = none → (∀ d ∈ ds, d.ok = true) ∧ (i ≤ 4 → i + ds.length ≤ 4)
  | [], _, _ => ⟨(fun _ z => by cases z), fun h => by simpa using h⟩
  | d :: ds, i, h => by
    unfold badFrom at h
    split at h
    · cases h
    · rename_i c
      obtain ⟨h1, h2⟩ := badFrom_all h
      simp only [Bool.or_eq_true, decide_eq_true_eq, Bool.not_eq_true', not_or] at c
      refine ⟨fun d' hd => ?_, fun hi => ?_⟩
      · rcases List.mem_cons.mp hd with rfl | hd
        · simpa using c.2
        · exact h1 d' hd
      · rw [List.length_cons]
        have := h2 (by omega)
        omega
theorem deal_all {ds : List Dd} (h : dealBad ds = none) : ds ≠ [] ∧ (∀ d ∈ ds, d.ok = true) ∧ ds.length ≤ 4 := by
  unfold dealBad at h
  split at h
  · cases h
  · rename_i c
    obtain ⟨h1, h2⟩ := badFrom_all h
    exact ⟨c, h1, by have := h2 (by decide); omega⟩
/-- the first of the deals that can't be -/
def badG (g : Gd) : Option Er := if inB 0 3 g.hd = true then (dealBad g.ds).map Er.deal else some .hand
def badGs : List Gd → Option Er
  | [] => none
  | g :: gs => match badG g with
    | some r => some r
    | none => badGs gs
theorem GdW.good {g : Gd} (h : GdW g) : badG g = none := by
  unfold badG
  rw [if_pos (by unfold inB; simp only [Bool.and_eq_true, decide_eq_true_eq]; exact ⟨h.h0, h.h3⟩), h.ok]
  rfl
theorem goods : ∀ {gs : List Gd}, (∀ g ∈ gs, GdW g) → badGs gs = none
  | [], _ => rfl
  | g :: gs, h => by
    unfold badGs
    rw [(h g List.mem_cons_self).good]
    exact goods fun g' hg => h g' (List.mem_cons_of_mem _ hg)
theorem badGs_app : ∀ {gs : List Gd} {g : Gd} {ks : List Gd} {r : Er}, (∀ g ∈ gs, GdW g) → badG g = some r → badGs (gs ++ g :: ks) = some r
  | [], g, ks, r, _, h => by
    show (match badG g with
      | some r => some r
      | none => badGs ks) = _
    rw [h]
  | a :: gs, g, ks, r, h, hb => by
    show (match badG a with
      | some r => some r
      | none => badGs (gs ++ g :: ks)) = _
    rw [(h a List.mem_cons_self).good]
    exact badGs_app (fun g' hg => h g' (List.mem_cons_of_mem _ hg)) hb
section
variable {P : Program} {w : World} {K : PySem.W.Frag} {mg : Str → Option Value} {base : Heap} {A : Ad} {tp : Nat → Addr} {nr pl B C fI : Addr}
/-! check_deals -/
abbrev Nsccheck_deals : List Str := ["deals", "hand", "letter", "deeds"]
theorem sccheck_deals : FnScope Nsccheck_deals ["deals"] (defScope s_check_deals) := ⟨rfl, rfl, rfl, by decide +kernel, rfl, by decide +kernel, by decide +kernel⟩
def spCDs (A : Ad) : Sp := fun vs H Q E => ∃ (a : Addr) (xs : List V) (gs : List Gd), vs = [.ref a] ∧ H a = some (.lst xs) ∧ Paired (GdAt H) xs gs ∧ ∀ G, Kp No H G → (badGs gs = none → Q .non G) ∧ ∀ r, badGs gs = some r → ErX A E G r
theorem ok_cds (T : Txt K mg A) (X : Ex P w K mg A B C fI) (htop : (P.main.scope.names.lookup ("super" : Str)).isSome = false) : ∃ fd, FnOk P w K mg base (L2N.CX P w) 4 (A.d 27) fd ["deals"] (spCDs A) ∧ Binds K fd ["deals"] [] := by
  obtain ⟨fd, F⟩ := T.check_deals.fn
  obtain ⟨fd1, Gcheck_hand, bcheck_hand⟩ := ok_check_hand (P := P) (w := w) (base := base) T
  obtain ⟨fd2, Gcheck_deal, bcheck_deal⟩ := ok_check_deal (P := P) (w := w) (base := base) T X htop
  refine ⟨fd, okN F sccheck_deals (fun vs H Q E h => ?_) (fun cdv Ar outer s0 H vs Q E hr h => ?_), F.binds fun _ _ _ _ _ _ us hl => match us, hl with | [_], _ => rfl⟩
  · obtain ⟨a, xs, gs, rfl, _⟩ := h
    rfl
  · obtain ⟨a, xs, gs, rfl, e, pg, k⟩ := h
    have tk : L2N.Takes (cxOf (L2N.CX P w) P w K mg base Nsccheck_deals "check_deals" (defScope s_check_deals) (A.d 27) cdv Ar outer s0 H E) (fun cls d _ G => E cls d G) := L2N.takes_of rfl rfl rfl rfl
    refine ⟨_, (pss_one (ps_for PassesOwn.leaving rfl (pi_list (pv 0)) (pg_tup rfl (pgs_cons (pg_name (i := 1) sccheck_deals.nd rfl (Or.inl rfl)) (pgs_cons (pg_name (i := 2) sccheck_deals.nd rfl (Or.inl rfl)) (pgs_cons (pg_name (i := 3) sccheck_deals.nd rfl (Or.inl rfl)) pgs_nil))))
        (pss_cons (ps_expr (pe_call (E := E) Gcheck_hand (hr.mono (by first | decide | omega)) rfl T.check_hand.at_ T.check_hand.kp bcheck_hand .nil (L2N.passes_call tk fun _ _ _ _ h => h) (pa_cons (pv 1) pa_nil)))
        (pss_one (ps_expr (pe_call (E := E) Gcheck_deal (hr.mono (by first | decide | omega)) rfl T.check_deal.at_ T.check_deal.kp bcheck_deal .nil (L2N.passes_call tk fun _ _ _ _ h => h) (pa_cons (pv 3) pa_nil))))))), ?_⟩
    refine ⟨_, rfl, a, rfl, ⟨_, SqL.of e⟩, for_list (K := K) (a := a) (xs := xs) (fun i σ J => (∃ o1 o2 o3, σ = [some (.ref a), o1, o2, o3]) ∧ Kp No H J ∧ badGs gs = badGs (gs.drop i)) ⟨⟨_, _, _, rfl⟩, Kp.refl _ _, rfl⟩ (fun i σ J _ ⟨_, kJ, _⟩ => SqL.of (kJ.t.lst e fun z => z)) ?_ ?_⟩
    · rintro i y σ J hy ⟨⟨o1, o2, o3, rfl⟩, kJ, eb⟩
      obtain ⟨g, hg, u, dv, rfl, hu2, hds⟩ := paired_at pg hy
      have hd : gs.drop i = g :: gs.drop (i + 1) := by
        obtain ⟨hi, e9⟩ := List.getElem?_eq_some_iff.mp hg
        rw [List.drop_eq_getElem_cons hi, e9]
      rw [hd] at eb
      have eb : badGs gs = (match badG g with
        | some r => some r
        | none => badGs (gs.drop (i + 1))) := eb
      refine ⟨u, _, rfl, SqT.of (kJ.t.tup hu2), rfl, _, _, rfl, _, _, rfl, _, _, rfl, rfl, ?_⟩
      refine ⟨_, rfl, g.hd, rfl, fun hh => ?_, fun hh => (k J kJ).2 .hand ?_⟩
      · refine ⟨_, rfl, dv, g.ds, rfl, hds.kt kJ.t, fun G kG => ⟨fun hb => ?_, fun p hb => (k G (kJ.trans kG fun _ z => False.elim z)).2 (.deal p) ?_⟩⟩
        · refine ⟨⟨_, _, _, rfl⟩, kJ.trans kG fun _ z => False.elim z, ?_⟩
          rw [eb]
          unfold badG
          rw [if_pos hh, hb]
          rfl
        · rw [eb]
          unfold badG
          rw [if_pos hh, hb]
          rfl
      · rw [eb]
        unfold badG
        rw [if_neg (by rw [hh]; decide)]
    · rintro σ J ⟨⟨o1, o2, o3, rfl⟩, kJ, eb⟩
      rw [pg.length, List.drop_length] at eb
      exact (k J kJ).1 eb
end
end S02

set_option Elab.async false
set_option linter.all false
set_option maxRecDepth 100000
set_option maxHeartbeats 4000000
/-! ### numbers as texts: pure facts -/
namespace S02
open PySem PySem.Spec PyProof.Rows L2 K5 TL
theorem starts_of {x : Str} {c : Nat} {r : List Nat} (h : tl x = c :: r) : Txt.startswith x "-" = decide (c = 45) := by
  rw [← mk_tl x, h]
  unfold Txt.startswith Builtin.Str.subAt
  have e1 : ("-" : Str).length = 1 := by decide +kernel
  have e2 : ("-" : Str).cps = #[45] := by decide +kernel
  rw [e1, e2]
  have e3 : ((⟨(c :: r).toArray⟩ : Str).cps.extract 0 (0 + 1)) = #[c] := by
    apply Array.ext'
    simp
  rw [e3]
  have e4 : (⟨(c :: r).toArray⟩ : Str).length = r.length + 1 := by
    show ((c :: r).toArray).size = _
    simp
  rw [e4]
  by_cases z : c = 45
  · subst z; simp
  · simp [z]
theorem numL_cons (n : Nat) : ∃ c r, numL n = c :: r ∧ 48 ≤ c ∧ c ≤ 57 := by
  cases h : numL n with
  | nil => exact absurd h (numL_ne n)
  | cons c r =>
    refine ⟨c, r, rfl, ?_⟩
    by_cases a : c < 48 ∨ 57 < c
    · exact absurd (by rw [h]; exact List.mem_cons_self) (numL_free (n := n) a)
    · omega
theorem starts_minus (i : Int) : Txt.startswith (nS i) "-" = decide (i < 0) := by
  by_cases z : 0 ≤ i
  · obtain ⟨c, r, h, h1, h2⟩ := numL_cons i.toNat
    rw [starts_of ((nS_pos z).trans h), decide_eq_false (by omega), decide_eq_false (by omega)]
  · rw [starts_of (nS_neg (by omega)), decide_eq_true rfl, decide_eq_true (by omega)]
theorem numL_head : ∀ (n : Nat), 1 ≤ n → ∃ c r, numL n = c :: r ∧ c ≠ 48
  | n, h => by
    by_cases z : n < 10
    · exact ⟨48 + n, [], numL_lt z, by omega⟩
    · obtain ⟨c, r, e, hc⟩ := numL_head (n / 10) (by omega)
      exact ⟨c, r ++ [48 + n % 10], by rw [numL_step (by omega), e]; rfl, hc⟩
theorem numL_one {n : Nat} (h : 10 ≤ n) : 1 < (numL n).length := by
  rw [numL_step h, List.length_append]
  have := List.length_pos_iff.mpr (numL_ne (n / 10))
  simp
  omega
theorem minus_ne0 {i : Int} (h : i < 0) : nS i ≠ "-0" := fun e => by
  have e1 := congrArg tl e
  rw [nS_neg h, show tl ("-0" : Str) = [45, 48] by decide +kernel] at e1
  obtain ⟨c, r, e2, hc⟩ := numL_head (-i).toNat (by omega)
  rw [e2] at e1
  injection e1 with _ e1
  injection e1 with e1
  exact hc e1
theorem nS_ne {i : Int} : nS i ≠ "-" := fun e => by
  have e1 := congrArg tl e
  rw [show tl ("-" : Str) = [45] by decide +kernel] at e1
  by_cases z : 0 ≤ i
  · obtain ⟨c, r, h, h1, h2⟩ := numL_cons i.toNat
    rw [nS_pos z, h] at e1
    injection e1 with e1
    omega
  · rw [nS_neg (by omega)] at e1
    injection e1 with _ e1
    exact numL_ne _ e1
theorem cut_minus {i : Int} (h : i < 0) : cutS (nS i) (some 1) none = nS (-i) := by
  apply ext_tl
  rw [nS_pos (by omega : 0 ≤ -i)]
  have e := nS_neg h
  show ((tl (nS i)).drop (HT.sIx (nS i).length 0 (some 1))).take (HT.sIx (nS i).length (nS i).length none - HT.sIx (nS i).length 0 (some 1)) = _
  have l : (nS i).length = (numL (-i).toNat).length + 1 := by rw [len_tl, e]; rfl
  have s1 : HT.sIx (nS i).length 0 (some ((1 : Nat) : Int)) = min 1 (nS i).length := HT.sIx_nat ..
  rw [show (some (1 : Int)) = some ((1 : Nat) : Int) from rfl, s1, HT.sIx_none, e, l, Nat.min_eq_left (by omega)]
  simp
/-- the figures -/
theorem figs {n c : Nat} (h : c ∈ numL n) : c ∈ ("0123456789" : Str).cps.toList := by
  have e : ("0123456789" : Str).cps.toList = [48, 49, 50, 51, 52, 53, 54, 55, 56, 57] := by decide +kernel
  rw [e]
  by_cases a : c < 48 ∨ 57 < c
  · exact absurd h (numL_free a)
  · simp only [List.mem_cons, List.not_mem_nil, or_false]
    omega
theorem part_text {h x : Int} {ds : List Dd} : ("" : Str) = "" := rfl
end S02

set_option Elab.async false
set_option linter.all false
set_option maxRecDepth 100000
set_option maxHeartbeats 2000000
namespace SupX
open PySem PySem.Spec PyProof.Rows L2
/-! ### a, .., *rest = a list: the star last -/
section
variable {prog : Program} {w : World} {A : Around} {E : Value → Shared → Prop} {s : Shared}
theorem star_itemsL {l : Addr} {its : Array Value} {i : Nat} {Q : List Value → Shared → Prop} (ht : s.heap.IsList l its) (hh : A.handled = none) (hi : i ≤ its.size) (hz : its.size ≤ 100000)
    (hQ : ∀ (h' : Heap) (tk : Nat), (∀ b o, s.heap.get? b = some o → h'.get? b = some o) → Q (its.toList.take i ++ [.ref h'.objs.size] ++ []) { s with heap := h'.push { cls := .type "list", data := .seq (its.toList.drop i).toArray }, toks := tk }) :
    wpAny (model prog w) A (unpackItems (.ref l) (i + 1) (some i)) Q E s := by
  have ne : l ≠ s.heap.objs.size := by obtain ⟨o, e, _⟩ := ht; exact Nat.ne_of_lt (Heap.lt_size e)
  unfold unpackItems notIterableAtAll
  refine wpAny_bind (wpAny_bind (wpAny_specialOf ht.typeIs slot_list_iter.lookup (wpAny_pure ?_)))
  simp only [Bool.false_eq_true, if_false]
  refine wpAny_bind (wpAny_holding (wpAny_pyIter_list ht (wpAny_bind (wpAny_holding (PySem.W.kun_draw ne i 0 _ _ ⟨_, Heap.get?_push_size _ rfl, rfl, rfl⟩ (ht.push _) (by omega) fun h1 it1 sb1 => ?_)))))
  have t1 : h1.IsList l its := (ht.push _).extBut sb1.extBut ne
  rw [Nat.zero_add] at it1
  have l1 : s.heap.objs.size < h1.objs.size := by obtain ⟨o, e, _⟩ := it1; exact Heap.lt_size e
  have l2 : l < h1.objs.size := by obtain ⟨o, e, _⟩ := t1; exact Heap.lt_size e
  have len1 : (its.toList.take i).length = i := by rw [List.length_take, Array.length_toList]; omega
  have len2 : (its.toList.drop i).length = its.size - i := by rw [List.length_drop, Array.length_toList]
  rw [List.drop_zero, if_neg (show ¬ ((its.toList.take i).length < i) by omega)]
  refine wpAny_bind (wpAny_holding (PySem.W.kun_collect (s := { s with heap := h1 }) (k := i) (T := "list_iterator") (.inr (.inr (.inl rfl))) (Walks.list (A := A.in1) hh s.heap.objs.size l ne its) (fun j u z => z.1.typeIs) hi ⟨it1, t1⟩ l1 l2 (fun h2 tk k2 => ?_) (by rw [sizeLine_eq]; omega)))
  have z0 : i + 1 - 1 - i = 0 := by omega
  rw [if_neg (show ¬ ((its.toList.drop i).length < i + 1 - 1 - i) by omega)]
  simp only [z0, Nat.sub_zero, List.take_length, List.drop_length]
  refine wpAny_bind (wpAny_newList (wpAny_pure (hQ h2 tk fun b o e => ?_)) (by rw [sizeLine_eq]; omega))
  exact k2 b o (Nat.ne_of_lt (Heap.lt_size e)) (sb1.extBut b o (Nat.ne_of_lt (Heap.lt_size e)) (Heap.get?_push_of_some _ e))
end
section
variable {X : Cx} {pos : Pos}
def gStarL (K : PySem.W.Frag) (n : Nat) (t : TGs) : TG := fun v σ H Q => ∃ a xs, v = .ref a ∧ SqL K H a xs ∧ n ≤ xs.length ∧ xs.length ≤ 100000 ∧ ∀ D, H D = none → t (xs.take n ++ [.ref D] ++ []) σ (upd H D (.lst (xs.drop n))) Q
theorem pg_starL {es : List Expr} {k : Nat} {t : TGs} {n : Nat} (hc : X.calm = true) (h : PGs X es t) (hn : (assignEach es X.env).length = n + 1 := by rfl) (hst : (assignEach es X.env).findIdx? (·.1) = some n := by rfl) : PG X (.Tuple es k pos) (gStarL X.K n t) := by
  refine ⟨fun pins s σ H v u Q I r hw => ?_⟩
  obtain ⟨a, xs, e1, hq, hl, hz, hw⟩ := hw
  subst e1
  cases r
  obtain ⟨its, rv, pl, _⟩ := I.list hq
  have ht : s.heap.IsList a its.toArray := by
    obtain ⟨o, m, e, c, d, q⟩ := pl
    exact ⟨o, e, c, m, q⟩
  have el : xs.length = its.length := rv.length
  rw [assign_Tuple]
  refine wpAny_bind (wpAny_standAt ?_)
  unfold unpack
  rw [hn, hst]
  refine wpAny_bind (wpAny_holding (star_itemsL ht (I.ok.hd hc) (by simp; omega) (by simp; omega) fun h' tk hk => ?_))
  have I1 : Inv X pins σ H { s with heap := h', toks := tk } := I.kept (t' := tk) hk
  have rd : Vals (xs.drop n) (its.drop n) := rv.drop n
  have I2 : Inv X pins σ (upd H h'.objs.size (.lst (xs.drop n))) { s with heap := h'.push { cls := .type "list", data := .seq (its.drop n).toArray }, toks := tk } :=
    I1.laid (t' := tk) (fun b o e => Heap.get?_push_of_some _ e) (Nat.le_refl _) (show ObjOk X.prog X.w _ _ _ (.lst (xs.drop n)) from ⟨by rw [List.length_drop, sizeLine_eq]; omega, its.drop n, 0, rd, Heap.get?_push_size _ rfl⟩)
  have e0 : its.toArray.toList = its := rfl
  show wpAny _ _ (assignInOrder _ (its.take n ++ [.ref h'.objs.size] ++ [])) _ _ { s with heap := h'.push { cls := .type "list", data := .seq (its.drop n).toArray }, toks := tk }
  exact h.run pins _ σ _ _ _ Q I2 (((rv.take n).append (.cons (show L2.RelV (V.ref h'.objs.size) (Value.ref h'.objs.size) from rfl) .nil)).append .nil) (hw _ (I1.hok.fresh (Nat.le_refl _)))
end
end SupX

set_option Elab.async false
set_option linter.all false
set_option maxRecDepth 100000
set_option maxHeartbeats 2000000
/-! LcR: a list comprehension whose element may raise (context None). -/
namespace L2N
open PySem PySem.Spec PyProof.Rows L2
/-- what a comprehension's block is to give, the environment known -/
def compPostF (M : Model) (A : Around) (E : Value → Shared → Prop) (use : Option (Value → Sem Unit)) (Q : Value → Shared → Prop) (acc : Value) (cenv : Env) (r : Result) (s' : Shared) : Prop :=
  match r, use with
  | .ok _, none => ∃ m, s'.heap.Ns cenv.locals m ∧ ∀ h', Heap.SameBut cenv.locals s'.heap h' → Q acc { s' with heap := h' }
  | .ok _, some u => wpAny M A (u acc) (fun _ s'' => ∃ m, s''.heap.Ns cenv.locals m ∧ ∀ h', Heap.SameBut cenv.locals s''.heap h' → Q .none { s'' with heap := h' }) E s'
  | .error x, _ => ∃ m, s'.heap.Ns cenv.locals m ∧ ∀ h', Heap.SameBut cenv.locals s'.heap h' → wpAny M A (passOn "comprehension.variables-let-go" x cenv : Sem Value) (fun _ _ => False) E { s' with heap := h' }
section
variable {M : Model} {A : Around} {E : Value → Shared → Prop} {s : Shared} {env : Env}
theorem comp_freeF {e : Expr} {scope : Scope} {pos : Pos} {newAcc first : Sem Value} {g : Comprehension} {gs : List Comprehension} {cl : List (Str × Addr)} {use : Option (Value → Sem Unit)}
    {Q : Value → Shared → Prop}
    (hcl : clausesOf e = g :: gs) (hs : ∀ x, foldedSetIterable g.iter env x = pure x) (hclos : closureFor scope env = pure cl)
    (hkind : scope.kind = .function) (hnames : ∀ x ∈ scope.names, x.2 = .local → scope.names.lookup x.1 = some .local)
    (h : wpAny M A first (fun x s₁ => wpAny M A (pyIter x) (fun it s₂ => wpAny M A newAcc (fun acc s₃ =>
      wpAny M A (newFunctionEnv scope env.globals cl [] env.qual none .none (some env)) (fun cenv s₄ =>
        codeAny M A (.compStart e 0 it acc { cenv with scope := relabel scope env }) (compPostF M A E use Q acc { cenv with scope := relabel scope env }) s₄) E s₃) E s₂) E s₁) E s) :
    wpAny M A (comprehension e scope env pos newAcc false first use) Q E s := by
  unfold comprehension
  rw [hclos, hcl]
  refine wpAny_bind (wpAny_mono h (fun x s₁ h₁ => wpAny_bind (wpAny_standAt (wpAny_bind (wpAny_of_eq (hs x) (wpAny_bind (wpAny_holding (wpAny_mono h₁ (fun it s₂ h₂ =>
    wpAny_standIf (wpAny_bind (wpAny_mono h₂ (fun acc s₃ h₃ => wpAny_bind (wpAny_pure (wpAny_bind (wpAny_mono h₃ (fun cenv s₄ h₄ => ?_) fun _ _ h' => h')))) fun _ _ h' => h')))
      fun _ _ h' => h'))))))) fun _ _ h' => h')
  dsimp only
  have hv : ∀ x ∈ (scope.names.filter fun x => (x.2 == .local || x.2 == .cell) && x.1 != (".0" : Str)).reverse, x.2 = .local →
      Env.kindOf { cenv with scope := relabel scope env } x.1 = some .local := fun x hx hl => lookup_relabel_local (hnames x (List.mem_filter.mp (List.mem_reverse.mp hx)).1 hl)
  have hv' : ∀ x ∈ (scope.names.filter fun x => (x.2 == .local || x.2 == .cell) && x.1 != (".0" : Str)).reverse.drop 1 ++ (scope.names.filter fun x => (x.2 == .local || x.2 == .cell) && x.1 != (".0" : Str)).reverse.take 1,
      x.2 = .local → Env.kindOf { cenv with scope := relabel scope env } x.1 = some .local := fun x hx hl => by
    rcases List.mem_append.mp hx with h1 | h1
    · exact hv x (List.mem_of_mem_drop h1) hl
    · exact hv x (List.mem_of_mem_take h1) hl
  refine wpAny_holding (wpAny_bind (wpAny_attempt (wpAny_holding (wpAny_run (codeAny_mono h₄ fun r s' hr => ?_)))))
  cases r with
  | ok f =>
    cases use with
    | none =>
      obtain ⟨m, hn, hr⟩ := hr
      exact wpAny_bind (wpAny_holding (wpAny_comp_letGo (cenv := { cenv with scope := relabel scope env }) hkind _ s' m hv hn fun h' m' _ hs' => wpAny_pure (hr h' hs')))
    | some u =>
      refine wpAny_bind (wpAny_rule (wpAny_bind (wpAny_holding (wpAny_mono hr (fun _ s'' hr' => ?_) fun _ _ h' => h'))))
      obtain ⟨m, hn, hr'⟩ := hr'
      exact wpAny_bind (wpAny_comp_letGo (cenv := { cenv with scope := relabel scope env }) hkind _ s'' m hv' hn fun h' m' _ hs' => wpAny_pure (hr' h' hs'))
  | error x =>
    have hr' : ∃ m, s'.heap.Ns cenv.locals m ∧ ∀ h', Heap.SameBut cenv.locals s'.heap h' → wpAny M A (passOn "comprehension.variables-let-go" x { cenv with scope := relabel scope env } : Sem Value) (fun _ _ => False) E { s' with heap := h' } := by cases use <;> exact hr
    obtain ⟨m, hn, hr⟩ := hr'
    exact wpAny_bind (wpAny_holding (wpAny_comp_letGo (cenv := { cenv with scope := relabel scope env }) hkind _ s' m hv hn fun h' m' _ hs' => wpAny_mono (hr h' hs') (fun _ _ f => f.elim) fun _ _ y => y))
end

section
open HandSPX
variable {M : Model} {A : Around} {E : Value → Shared → Prop} {s : Shared} {Z : Obj → Prop} {base : Heap} {env : Env} {outer : List Env} {L C e : Addr}
/-- a flight that was noted elsewhere (fl: not this frame) is noted by this frame -/
theorem looks_onY {fl : Value} {Q : Unit → Shared → Prop} (hZ : PXN.Steady1 Z) (hfr : A.frames = some (env :: outer)) (hf : env.frame = some L)
    (hkb : base.StaysIn s.heap) (hen : base.get? e = none) (hl : s.heap.FunFrames base (env :: outer)) (ht : TracedZ s.heap base e Z fl) (hfl : ¬ ((fl == rawInt L) = true))
    (hQ : ∀ h', HeldZ base (env :: outer) e Z L h' → s.heap.UpToSlots h' → Q () { s with heap := h' }) : wpAny M A (noteFrame (.ref e) env) Q E s := by
  obtain ⟨oe, vs, T, oT, ts, he, hz, hd, h1, hnT, hTe, hT, hdT, h3⟩ := ht
  unfold noteFrame
  simp only [hf]
  refine wpAny_bind (wpAny_field he hd h1 ?_)
  rw [if_pos (show (Value.ref T != Value.none) = true from by simp)]
  refine wpAny_bind (wpAny_field hT hdT h3 ?_)
  rw [if_neg hfl]
  refine wpAny_bind (wpAny_setField hT hdT (Array.getElem?_eq_some_iff.mp h3).1 ?_)
  have other : ∀ b, b ≠ T → (s.heap.update T (Obj.mapFields (·.setIfInBounds 3 Value.none))).get? b = s.heap.get? b := fun b hb => Heap.get?_update_other _ _ (Ne.symm hb)
  have noRecord : ∀ b o, s.heap.get? b = some o → (∀ vs, o.data ≠ .fields vs) → b ≠ T := fun b o hb hnf q => by
    rw [q, hT] at hb; injection hb with hb; subst hb; exact hnf ts hdT
  refine PXN.wpAny_entryZ hZ hfr (hl.of_keeps fun b o hb hnf => ⟨o, (other b (noRecord b o hb hnf)).trans hb, rfl⟩) hf ((other e (Ne.symm hTe)).trans he)
    (fun b o hbo => (other b fun q => by rw [q, hnT] at hbo; cases hbo).trans (hkb b o hbo)) hen hd (Array.getElem?_eq_some_iff.mp h1).1 hz fun h' hN => ?_
  obtain ⟨x1, x2, x3, x4⟩ := hN
  exact hQ h' ⟨x1, hen, x2, x3⟩ fun b o hb hnf => x4 b o ((other b (noRecord b o hb hnf)).trans hb) hnf
/-- an exception in a block's air is noted by the block's def -/
theorem Sky.note (hfr : A.frames = some (env :: outer)) (hf : env.frame = some L) (hC : C ≠ L) (hZ : PXN.Steady1 Z) {Q : Unit → Shared → Prop}
    (x : Sky base (env :: outer) e Z C s.heap) (hQ : ∀ h', HeldZ base (env :: outer) e Z L h' → s.heap.UpToSlots h' → Q () { s with heap := h' }) : wpAny M A (noteFrame (.ref e) env) Q E s := by
  rcases x with ⟨hB, hn, hl, oe, vs, he, hz, hd, h1⟩ | ⟨k1, k2, k3, k4⟩ | ⟨k1, k2, k3, k4⟩
  · exact PXN.look_newZ hZ hfr hl hf he hB hn hd h1 hz hQ
  · exact looks_onY hZ hfr hf k1 k2 k3 k4 (by simp [rawInt]) hQ
  · exact looks_onY hZ hfr hf k1 k2 k3 k4 (by
      intro q
      have := eq_of_beq q
      simp only [rawInt] at this
      exact hC (by
        injection this with this
        exact Int.ofNat.inj this)) hQ
end
end L2N

namespace L2N
open PySem PySem.Spec PyProof.Rows L2 HandSPX
theorem funFrames_swap {h h' base base' : Heap} (hb : ∀ b, base.get? b = none → base'.get? b = none) : ∀ {l : List Env}, (∀ b ∈ frs l, ∀ o, h.get? b = some o → h'.get? b = some o) → h.FunFrames base l → h'.FunFrames base' l
  | [], _, _ => trivial
  | env :: rest, k, ⟨hk, ⟨L, o, hf, hn, ho, hd⟩, hr⟩ => by
    refine ⟨hk, ⟨L, o, hf, hb L hn, k L (List.mem_filterMap.mpr ⟨env, List.mem_cons_self, hf⟩) o ho, hd⟩, funFrames_swap hb (fun b hm o e => k b ?_ o e) hr⟩
    obtain ⟨x, hx, q⟩ := List.mem_filterMap.mp hm
    exact List.mem_filterMap.mpr ⟨x, List.mem_cons_of_mem _ hx, q⟩
/-- what is wanted of an exception does not touch the state -/
theorem Inv.rexe {X : Cx} {pins : List (Addr × Obj)} {σ : St} {H : Hp} {s : Shared} (I : Inv X pins σ H s) (xe : Value → Shared → Prop) : Inv { X with xe := xe } pins σ H s :=
  ⟨⟨I.ok.mod, I.ok.kind, I.ok.glob, I.ok.blt, I.ok.above, I.ok.inj, I.ok.has, I.ok.cab, I.ok.hd, I.ok.frames, I.ok.stk, I.ok.exf, I.ok.bs, I.ok.bsz, I.ok.noex, I.ok.exfs, I.ok.funs, I.ok.frf⟩,
    I.os, I.bare, I.base, I.loc, I.cell, I.free, I.freeC, I.pin, I.hok, I.len⟩
/-- a block whose exceptions are wanted -/
abbrev Cx.blkR (X : Cx) (s : Shared) (H : Hp) (scope : Scope) (cenv : Env) (fp : List Addr) (xe : Value → Shared → Prop) : Cx :=
  { X.blk s H scope cenv fp with xe := xe }
section
variable {X : Cx} {pins : List (Addr × Obj)} {σ : St} {H3 : Hp} {s3 : Shared} {scope : Scope} {ce : Env} {fp : List Addr} {Wo : WX} {Wb : WX} {xe : Value → Shared → Prop}
/-- an exception in a block's air, noted and passed on, is in the def's air -/
theorem blk_throws (hs : X.stack = X.env :: X.outer) (hf : X.env.frame = some X.env.locals) (tk : Takes X Wo) (I3 : Inv X pins σ H3 s3) (cL : ce.locals = s3.heap.objs.size) (cF : ce.frame = X.env.frame)
    (f3 : ∀ b ∈ fp, FpOk X pins H3 b ∧ b < s3.heap.objs.size) (hW : ∀ c d σ' H', Wb c d σ' H' → Wo c d σ H') {use : Option (Value → Sem Unit)} {Qf : Value → Shared → Prop} {acc u : Value} {s' : Shared}
    (x : XE (Cx.blkR X s3 H3 scope ce fp xe) Wb u s') :
    notedBy (model X.prog X.w) X.A ce (fun e s' => compPostF (model X.prog X.w) X.A X.xe use Qf acc ce (.error e) s') u s' := by
  obtain ⟨a, B, sI, pins', σ', H', cls, d, rfl, I', nb, up, sky, na, os, ag, w⟩ := x
  have hfr : X.A.frames = some (X.env :: X.outer) := by rw [I3.ok.frames, hs]
  have nm : noteFrame (.ref a) ce = noteFrame (.ref a) X.env := by
    unfold noteFrame PySem.frameOf
    rw [cF]
  have nC : H' s3.heap.objs.size = none := by
    have z : H' ce.locals = none := I'.free
    rw [cL] at z
    exact z
  obtain ⟨g0, g1, g2, g3, g4, g5⟩ := I3.fpOk (H' := H') (Nat.le_refl _) nC
  have cL' : s3.heap.objs.size ≠ X.env.locals := g1
  have nst : s3.heap.objs.size ∉ frs X.stack := fun hm => by
    rw [hs] at hm
    obtain ⟨e, he, q⟩ := List.mem_filterMap.mp hm
    rcases List.mem_cons.mp he with z | z
    · rw [z, hf] at q; exact g1 (Option.some.inj q).symm
    · exact g2 (List.mem_filterMap.mpr ⟨e, z, q⟩)
  show wpAny _ X.A (noteFrame (.ref a) ce) _ _ _
  rw [nm]
  have sky' : Sky B (X.env :: X.outer) a (Zn cls d) ce.locals s'.heap := by rw [← hs]; exact sky
  refine Sky.note hfr hf (by rw [cL]; exact cL') Zn.steady sky' fun h1 hh1 up1 => ?_
  obtain ⟨m, ⟨oC, es, ep, eC, dC, rC⟩, _⟩ := I'.loc
  have eC : sI.heap.get? ce.locals = some oC := eC
  have BC : B.get? ce.locals = some oC := nb _ _ eC (by rw [cL]; exact nst)
  have h1C : h1.get? ce.locals = some oC := hh1.1 _ _ BC
  refine ⟨m, ⟨oC, es, ep, h1C, dC, rC⟩, fun h' sb => ?_⟩
  obtain ⟨k1, k2, k3, oe, vs, T, oT, ts, he, hz, hd, hv1, hnT, hTe, hT, hdT, h3⟩ := hh1
  have aC : a ≠ ce.locals := fun z => by rw [z] at k2; rw [BC] at k2; cases k2
  have TC : T ≠ ce.locals := fun z => by rw [z] at hnT; rw [BC] at hnT; cases hnT
  have kp : ∀ b o, b ≠ ce.locals → h1.get? b = some o → h'.get? b = some o := fun b o hb e => (sb.2 b hb).trans e
  have he' := kp _ _ aC he
  have hT' := kp _ _ TC hT
  obtain ⟨B', b1, b2⟩ := restrict B fun b => decide (b ≠ ce.locals)
  have bb : ∀ b o, B'.get? b = some o → B.get? b = some o ∧ b ≠ ce.locals := fun b o e => by
    by_cases hb : b = ce.locals
    · rw [b2 b (by simp [hb])] at e; cases e
    · rw [b1 b (by simp [hb])] at e; exact ⟨e, hb⟩
  have bn : ∀ b, B.get? b = none → B'.get? b = none := fun b e => by
    cases q : B'.get? b with
    | none => rfl
    | some o => rw [(bb b o q).1] at e; cases e
  obtain ⟨G, j1, j2⟩ := restrict sI.heap fun b => decide (b ≠ ce.locals)
  have gg : ∀ b o, G.get? b = some o → sI.heap.get? b = some o ∧ b ≠ ce.locals := fun b o e => by
    by_cases hb : b = ce.locals
    · rw [j2 b (by simp [hb])] at e; cases e
    · rw [j1 b (by simp [hb])] at e; exact ⟨e, hb⟩
  have gk : ∀ b o, b ≠ ce.locals → sI.heap.get? b = some o → G.get? b = some o := fun b o hb e => by rw [j1 b (by simp [hb])]; exact e
  have ne3 : ∀ b o, s3.heap.get? b = some o → b ≠ ce.locals := fun b o e z => by
    have := Heap.lt_size e
    rw [z, cL] at this
    exact Nat.lt_irrefl _ this
  have ff : ∀ b ∈ frs (X.env :: X.outer), b ≠ ce.locals := fun b hb z => by rw [← hs] at hb; rw [z, cL] at hb; exact nst hb
  have hokG : HOk X.prog X.w H' G := fun b o q => (I'.hok b o q).stay (fun c u hc r => gk c u (fun z => by
    rw [z, cL] at hc
    rcases hc with hc | hc
    · rw [← hc, nC] at q; cases q
    · rw [nC] at hc; cases hc) r) (fun _ r => r) fun _ _ r => r
  have uG : Un (frs X.stack) fp H3 H' s3.heap G := ⟨fun b o e n h1 h2 => gk b o (ne3 b o e) (I'.base.keep b o e n h1 h2), fun b o e n h1 h2 => by
      obtain ⟨sl, q⟩ := I'.base.slot b o e n h1 h2
      exact ⟨sl, gk b _ (ne3 b o e) q⟩, I'.base.free, fun b o e h2 => by
      obtain ⟨o', q⟩ := I'.base.there b o e h2
      exact ⟨o', gk b _ (ne3 b o e) q⟩, I'.base.tups, I'.base.frzs, I'.base.tbls⟩
  have J : Inv X pins σ H' { sI with heap := G } := I3.call' (s' := { sI with heap := G }) (ch := fp) I'.os uG hokG I'.bare fun b hb => ⟨(f3 b hb).1.2.2.2.1, (f3 b hb).1.2.1, (f3 b hb).1.2.2.2.2.1, (f3 b hb).1.2.2.2.2.2⟩
  have q1 : B'.StaysIn h' := fun b o e => kp b o (bb b o e).2 (k1 b o (bb b o e).1)
  have q3 : h'.FunFrames B' (X.env :: X.outer) := funFrames_swap bn (fun b hb o e => kp b o (ff b hb) e) k3
  have q4 : TracedZ h' B' a (Zn cls d) (rawInt X.env.locals) := ⟨oe, vs, T, oT, ts, he', hz, hd, hv1, bn _ hnT, hTe, hT', hdT, h3⟩
  unfold PySem.passOn
  refine wpAny_bind (wpAny_field he' hd hv1 ?_)
  rw [if_neg (show ¬ ((Value.ref T == Value.none) = true) from by simp)]
  have fin : wpAny (model X.prog X.w) X.A (setFlight (.ref a) ce.frame) (fun _ s4 => wpAny (model X.prog X.w) X.A (throw (.ref a) : Sem Value) (fun _ _ => False) X.xe s4) X.xe { s' with heap := h' } := by
    rw [cF, hf]
    refine setFlight_anyZ (s := { s' with heap := h' }) q1 q3 q4 fun h2 r1 r2 r3 r4 => wpAny_throw (tk _ _ ?_)
    refine ⟨a, B', { sI with heap := G }, pins, σ, H', cls, d, rfl, J, fun b o e hb => ?_, ?_, .inr (.inr ⟨r1, bn _ k2, by rw [hs]; exact r2, r3⟩), na, os, ag, hW _ _ _ _ w⟩
    · have e := gg b o e
      rw [b1 b (by simp [e.2])]
      exact nb b o e.1 hb
    · intro b o e hnf
      have e := gg b o e
      obtain ⟨sl1, e1⟩ := up b o e.1 hnf
      obtain ⟨sl2, e2⟩ := up1 b _ e1 hnf
      have e2 : h1.get? b = some { o with slots := sl2 } := e2
      exact r4 b { o with slots := sl2 } (kp b _ e.2 e2) hnf
  first
    | exact wpAny_bind (wpAny_pure (wpAny_bind fin))
    | exact wpAny_bind fin
end
end L2N

-- REST

namespace L2N
open PySem PySem.Spec PyProof.Rows L2
section
variable {X : Cx}
theorem lc_coreR {pins : List (Addr × Obj)} {s : Shared} {σ : St} {H : Hp} {Q : VK} {elt tg iter : Expr} {ifs : List Expr} {scope : Scope} {own : List (Str × Nat)} {pos pos' : Pos} {wi : TI} {g : TG} {tt : TT} {te : TE} {EX : XK} {use : Option (Value → Sem Unit)} {Qf : Value → Shared → Prop}
    (hs' : X.stack = X.env :: X.outer) (hf : X.env.frame = some X.env.locals) (tk : Takes X (fun c d _ H => EX c d H)) (hc : X.calm = true) (hN : X.N.Nodup) (I : Inv X pins σ H s) (hi : PI X tg iter wi) (ok : BlkOk X.N X.env.scope scope own)
    (hg : ∀ (s : Shared) (H : Hp) (C : Addr) (cl : List (Str × Addr)) (fp : List Addr) (xe : Value → Shared → Prop), PG (Cx.blkR X s H scope (compEnvC scope cl C X.env) fp xe) tg g) (ht : ∀ (s : Shared) (H : Hp) (C : Addr) (cl : List (Str × Addr)) (fp : List Addr) (xe : Value → Shared → Prop), PTs (Cx.blkR X s H scope (compEnvC scope cl C X.env) fp xe) ifs tt)
    (he : ∀ (s : Shared) (H : Hp) (C : Addr) (cl : List (Str × Addr)) (fp : List Addr) (xe : Value → Shared → Prop), Takes (Cx.blkR X s H scope (compEnvC scope cl C X.env) fp xe) (fun c d _ H => EX c d H) → PE (Cx.blkR X s H scope (compEnvC scope cl C X.env) fp xe) elt te) (hs : ∀ x, foldedSetIterable iter X.env x = pure x)
    (h : tLc wi g tt te (own.map (·.2)) σ H Q)
    (hRR : ∀ D C s' m H', Inv X pins σ H' s' → Q (.ref D) H' → s'.heap.Ns C m → FpOk X pins H' C → compPost (model X.prog X.w) X.A X.xe use Qf (.ref D) C (.ok .next) s') :
    wpAny (model X.prog X.w) X.A (comprehension (.ListComp elt [⟨tg, iter, ifs, 0⟩] scope pos) scope X.env pos' (newList []) false (eval iter X.env) use) Qf X.xe s := by
  have hfree : ∀ y ∈ scope.names, y.2 = .free → ∃ c, X.env.cells.lookup y.1 = some c := fun y hy e => by
    rcases ok.free y hy e with k | k
    · exact I.ok.has _ (.inl k)
    · exact I.ok.has _ (.inr k)
  refine comp_freeF (use := use) rfl hs (closure_ok hfree) ok.kind (fun y hy e => by rw [ok.uniq y hy, e])
    (thn (hi.run pins s σ H _ I h) fun xv s1 hx => thn hx fun itv s2 h2 => ?_)
  obtain ⟨it, fp, tn, J, H2, e, I2, T, st2, f2, q⟩ := h2
  subst e
  refine wpAny_newObj_type (newEnv_comp ?_) (by show 0 ≤ sizeLine; decide)
  generalize hD : s2.heap.objs.size = D
  have hDn : H2 D = none := I2.hok.fresh (Nat.le_of_eq hD)
  obtain ⟨W, ⟨m0, w0⟩, turn⟩ := q D hDn
  -- the new list
  generalize hs3 : ({ s2 with heap := s2.heap.push { cls := .type "list", data := .seq ([] : List Value).toArray } } : Shared) = s3
  have I3 : Inv X pins σ (upd H2 D (.lst [])) s3 := by
    rw [← hs3]
    refine I2.laid (t' := s2.toks) (fun b o e => Heap.get?_push_of_some _ e) (Nat.le_of_eq hD) ⟨Nat.zero_le _, [], 0, .nil, ?_⟩
    rw [← hD]
    exact Heap.get?_push_size _ rfl
  have h3 : s3.heap = s2.heap.push { cls := .type "list", data := .seq ([] : List Value).toArray } := by rw [← hs3]
  have sz : ∀ b ∈ fp, b < s2.heap.objs.size := fun b hb => by
    obtain ⟨o, e, _⟩ := T.obj _ _ st2 b hb
    exact Heap.lt_size e
  have f3 : ∀ b ∈ fp, FpOk X pins (upd H2 D (.lst [])) b ∧ b < s3.heap.objs.size := fun b hb => by
    have hlt := sz b hb
    refine ⟨⟨?_, (f2 b hb).2⟩, by rw [h3, Heap.size_push]; exact Nat.lt_succ_of_lt hlt⟩
    rw [upd_ne (by rw [← hD]; exact Nat.ne_of_lt hlt)]
    exact (f2 b hb).1
  have st3 : tn 0 s3.heap := T.keep _ _ _ st2 fun b _ o e => by rw [h3]; exact Heap.get?_push_of_some _ e
  have I4 := block_start I3 ok hN f3
  have pg := fun xe => hg s3 (upd H2 D (.lst [])) s3.heap.objs.size (cellsFrom (s3.heap.objs.size + 1) scope.names (cloFrom X.env.cells scope.names [])) fp xe
  have pt := fun xe => ht s3 (upd H2 D (.lst [])) s3.heap.objs.size (cellsFrom (s3.heap.objs.size + 1) scope.names (cloFrom X.env.cells scope.names [])) fp xe
  have pe := fun xe => he s3 (upd H2 D (.lst [])) s3.heap.objs.size (cellsFrom (s3.heap.objs.size + 1) scope.names (cloFrom X.env.cells scope.names [])) fp xe
  show codeAny _ _ (.compStart (.ListComp elt [⟨tg, iter, ifs, 0⟩] scope pos) 0 (.ref it) (.ref D) (compEnvC scope (cellsFrom (s3.heap.objs.size + 1) scope.names (cloFrom X.env.cells scope.names [])) s3.heap.objs.size X.env)) (compPostF (model X.prog X.w) X.A X.xe use Qf (.ref D) (compEnvC scope (cellsFrom (s3.heap.objs.size + 1) scope.names (cloFrom X.env.cells scope.names [])) s3.heap.objs.size X.env)) { s3 with heap := pushCells (s3.heap.push { cls := .type "dict", data := .dict #[] }) scope.names }
  have nfp : ∀ b ∈ fp, (upd H2 D (.lst [])) b = none := fun b hb => (f3 b hb).1.1
  generalize hce : compEnvC scope (cellsFrom (s3.heap.objs.size + 1) scope.names (cloFrom X.env.cells scope.names [])) s3.heap.objs.size X.env = ce at I4 pg pt pe ⊢
  have cL : ce.locals = s3.heap.objs.size := by subst hce; rfl
  have cF : ce.frame = X.env.frame := by subst hce; rfl
  generalize hH3 : upd H2 D (.lst []) = H3 at I3 I4 pg pt pe w0 nfp f3
  generalize hs4 : ({ s3 with heap := pushCells (s3.heap.push { cls := .type "dict", data := .dict #[] }) scope.names } : Shared) = s4 at I4 ⊢
  generalize hxe : notedBy (model X.prog X.w) X.A ce (fun e s' => compPostF (model X.prog X.w) X.A X.xe use Qf (.ref D) ce (.error e) s') = xeB
  have tkb : Takes (Cx.blkR X s3 H3 scope ce fp xeB) (fun c d _ H => EX c d H) := fun u s' x => by
    show xeB u s'
    rw [← hxe]
    exact blk_throws hs' hf tk I3 cL cF f3 (fun c d σ' H' w => w) x
  have I4 : Inv (Cx.blkR X s3 H3 scope ce fp xeB) [] (wipe σ (own.map (·.2))) H3 s4 := L2N.Inv.rexe I4 xeB
  have toE : ∀ e s', xeB e s' → notedBy (model X.prog X.w) X.A ce (fun e s' => compPostF (model X.prog X.w) X.A X.xe use Qf (.ref D) ce (.error e) s') e s' := fun e s' z => by rw [hxe]; exact z
  have pg := pg xeB
  have pt := pt xeB
  have pe := pe xeB tkb
  have st4 : tn 0 s4.heap := T.keep _ _ _ st3 fun b _ o e => by rw [← hs4]; exact pushCells_keeps _ _ _ _ (Heap.get?_push_of_some _ e)
  have stat : ∀ {σ' : St} {H' : Hp} {s' : Shared}, Inv (Cx.blkR X s3 H3 scope ce fp xeB) [] σ' H' s' → (∀ b ∈ fp, H' b = none) → ∀ b ∈ fp, FpOk (Cx.blkR X s3 H3 scope ce fp xeB) [] H' b := fun {σ' H' s'} I' hn b hb =>
    ⟨hn b hb, (I'.ok.exf b hb).1, I'.ok.exfs b hb, .inl hb, fun x c e => (I'.ok.exf b hb).2 x c e, fun p hp => absurd (show p ∈ ([] : List (Addr × Obj)) ++ [] from hp) (by simp)⟩
  have loop : codeAny (model X.prog X.w) X.A (.compLoop (.ListComp elt [⟨tg, iter, ifs, 0⟩] scope pos) 0 (.ref it) (.ref D) ce) (compPostF (model X.prog X.w) X.A X.xe use Qf (.ref D) ce) s4 := by
    refine compLoop_any (fun n s' => ∃ i H', Inv (Cx.blkR X s3 H3 scope ce fp xeB) [] (wipe σ (own.map (·.2))) H' s' ∧ tn i s'.heap ∧ (∀ b ∈ fp, H' b = none) ∧ W i n H') ?_ m0 ⟨0, H3, I4, st4, nfp, w0⟩
    rintro n s5 ⟨i, H5, I5, st5, n5, w5⟩
    rcases turn i n H5 w5 with ⟨stop, qq⟩ | ⟨go, Nx, hNx, step⟩
    · have td := T.done (Cx.blkR X s3 H3 scope ce fp xeB) rfl rfl rfl hc i [] s5 _ H5 (fun _ _ => False) I5 (stat I5 n5) st5 stop
      refine thnF td fun r s6 ⟨hr, I6⟩ => ?_
      subst hr
      -- back in the def's context
      have I7 : Inv X pins σ H5 s6 := I3.call' (ch := fp) I6.os I6.base I6.hok I6.bare fun b hb => ⟨(f3 b hb).1.2.2.2.1, (f3 b hb).1.2.1, (f3 b hb).1.2.2.2.2.1, (f3 b hb).1.2.2.2.2.2⟩
      have nC : H5 s3.heap.objs.size = none := by
        have z : H5 ce.locals = none := I6.free
        rw [cL] at z
        exact z
      obtain ⟨m, hn, _⟩ := I6.loc
      have hn : s6.heap.Ns ce.locals m := hn
      rw [cL] at hn
      have z := hRR D s3.heap.objs.size s6 m H5 I7 qq hn (I3.fpOk (Nat.le_refl _) nC)
      show compPostF _ _ _ use Qf (.ref D) ce (.ok .next) s6
      cases use with
      | none => simp only [compPostF, cL]; exact z
      | some u => simp only [compPostF, cL]; exact z
    · have ti := T.item (Cx.blkR X s3 H3 scope ce fp xeB) rfl rfl rfl hc i [] s5 _ H5 (fun _ _ => False) I5 (stat I5 n5) st5 go
      refine thnF ti fun r s6 ⟨u, hr, h6⟩ => ?_
      subst hr
      refine thnF h6 fun _ s7 ⟨x, H7, I7, r7, y7, st7, n7⟩ => ?_
      have I7' := I7.pinned (stat I7 n7) (T.obj _ _ st7)
      refine wpAny_mono (pg.run _ s7 _ H7 x u _ I7' r7 (step x H7 y7)) (fun _ s8 ⟨σ8, H8, I8, hw8, q8⟩ => ?_) toE
      refine wpAny_mono (pt.run _ s8 σ8 H8 _ I8 q8) (fun b s9 ⟨H9, I9, q9⟩ => ?_) toE
      -- the turn's end
      have fin : ∀ {s' : Shared} {H' : Hp}, Inv (Cx.blkR X s3 H3 scope ce fp xeB) ([] ++ pinsAt fp s7.heap) σ8 H' s' → Nx H' → ∃ m, m < n ∧ ∃ i H', Inv (Cx.blkR X s3 H3 scope ce fp xeB) [] (wipe σ (own.map (·.2))) H' s' ∧ tn i s'.heap ∧ (∀ b ∈ fp, H' b = none) ∧ W i m H' := fun {s' H'} I' nx => by
        obtain ⟨m', hm, w'⟩ := hNx H' nx
        have pin' : ∀ b ∈ fp, ∀ o, s7.heap.get? b = some o → s'.heap.get? b = some o ∧ H' b = none := fun b hb o e =>
          let z := I'.pin (b, o) (List.mem_append_right _ (List.mem_append_right _ (mem_pinsAt hb e)))
          ⟨z.1, z.2.1⟩
        have hl : (wipe σ (own.map (·.2))).length = σ8.length := by rw [← hw8, wipe_length]
        refine ⟨m', hm, i + 1, H', (I'.unpinned (pins := [])).weak hl (fun j v e => ?_), T.keep _ _ _ st7 fun b hb o e => (pin' b hb o e).1, fun b hb => ?_, w'⟩
        · rw [← hw8] at e
          exact (wipe_some e).1
        · obtain ⟨o, e, _⟩ := T.obj _ _ st7 b hb
          exact (pin' b hb o e).2
      cases b with
      | false =>
        simp only [Bool.false_eq_true, if_false] at q9 ⊢
        exact fin I9 q9
      | true =>
        simp only [if_true] at q9 ⊢
        refine wpAny_mono (pe.run _ s9 σ8 H9 _ I9 q9) (fun z s10 ⟨yv, H10, I10, r10, acc, hD10, hz10, nx⟩ => ?_) toE
        exact app_ok (X := Cx.blkR X s3 H3 scope ce fp xeB) I10 hD10 hz10 r10 fun s11 I11 => fin I11 nx
  exact codeAny_compStart_list loop (T.self X.A 0 _ _ _ st4 loop)
/-- as a value -/
theorem pe_lcR {elt tg iter : Expr} {ifs : List Expr} {scope : Scope} {own : List (Str × Nat)} {pos : Pos} {wi : TI} {g : TG} {tt : TT} {te : TE} {EX : XK} (hs' : X.stack = X.env :: X.outer) (hf : X.env.frame = some X.env.locals) (tk : Takes X (fun c d _ H => EX c d H)) (hc : X.calm = true) (hN : X.N.Nodup) (hi : PI X tg iter wi) (ok : BlkOk X.N X.env.scope scope own)
    (hg : ∀ (s : Shared) (H : Hp) (C : Addr) (cl : List (Str × Addr)) (fp : List Addr) (xe : Value → Shared → Prop), PG (Cx.blkR X s H scope (compEnvC scope cl C X.env) fp xe) tg g) (ht : ∀ (s : Shared) (H : Hp) (C : Addr) (cl : List (Str × Addr)) (fp : List Addr) (xe : Value → Shared → Prop), PTs (Cx.blkR X s H scope (compEnvC scope cl C X.env) fp xe) ifs tt)
    (he : ∀ (s : Shared) (H : Hp) (C : Addr) (cl : List (Str × Addr)) (fp : List Addr) (xe : Value → Shared → Prop), Takes (Cx.blkR X s H scope (compEnvC scope cl C X.env) fp xe) (fun c d _ H => EX c d H) → PE (Cx.blkR X s H scope (compEnvC scope cl C X.env) fp xe) elt te) (hs : ∀ x, foldedSetIterable iter X.env x = pure x := by intro _; rfl) :
    PE X (.ListComp elt [⟨tg, iter, ifs, 0⟩] scope pos) (tLc wi g tt te (own.map (·.2))) := by
  refine ⟨fun pins s σ H Q I h => ?_⟩
  rw [eval_ListComp]
  refine lc_coreR hs' hf tk hc hN I hi ok hg ht he hs h fun D C s' m H' I' q hn f => ⟨m, hn, fun h'' sb => ?_⟩
  obtain ⟨f0, f1, f2, f3, f4, f5⟩ := f
  exact ⟨.ref D, H', I'.turned (t' := s'.toks) (fun b o hb e => (sb.2 b hb).trans e) f0 f1 f3 f4 f5, rfl, q⟩
/-- name = [..] on one line, the name a local -/
theorem ps_setLcR {i : Nat} {y : Str} {py : Pos} {elt tg iter : Expr} {ifs : List Expr} {scope : Scope} {own : List (Str × Nat)} {pos spos : Pos} {wi : TI} {g : TG} {tt : TT} {te : TE} {EX : XK} (hs' : X.stack = X.env :: X.outer) (hf : X.env.frame = some X.env.locals) (tk : Takes X (fun c d _ H => EX c d H)) (hc : X.calm = true) (hN : X.N.Nodup) (hy : X.N[i]? = some y) (hyl : X.env.scope.names.lookup y = some .local)
    (hsw : swapsWith (.ListComp elt [⟨tg, iter, ifs, 0⟩] scope pos) (some (.Name y py)) spos.line X.env = pure true) (hi : PI X tg iter wi) (ok : BlkOk X.N X.env.scope scope own)
    (hg : ∀ (s : Shared) (H : Hp) (C : Addr) (cl : List (Str × Addr)) (fp : List Addr) (xe : Value → Shared → Prop), PG (Cx.blkR X s H scope (compEnvC scope cl C X.env) fp xe) tg g) (ht : ∀ (s : Shared) (H : Hp) (C : Addr) (cl : List (Str × Addr)) (fp : List Addr) (xe : Value → Shared → Prop), PTs (Cx.blkR X s H scope (compEnvC scope cl C X.env) fp xe) ifs tt)
    (he : ∀ (s : Shared) (H : Hp) (C : Addr) (cl : List (Str × Addr)) (fp : List Addr) (xe : Value → Shared → Prop), Takes (Cx.blkR X s H scope (compEnvC scope cl C X.env) fp xe) (fun c d _ H => EX c d H) → PE (Cx.blkR X s H scope (compEnvC scope cl C X.env) fp xe) elt te) (hs : ∀ x, foldedSetIterable iter X.env x = pure x := by intro _; rfl) :
    PS X (.Assign [.Name y py] (.ListComp elt [⟨tg, iter, ifs, 0⟩] scope pos) spos) (tAsg (tLc wi g tt te (own.map (·.2))) (gName i)) := by
  refine ⟨fun pins s σ H D I h => ?_⟩
  rw [exec_Assign_Name_used _ _ _ _ hsw]
  refine wpAny_bind (wpAny_standAt (wpAny_bind ?_))
  show wpAny _ X.A (do let _ ← comprehension (.ListComp elt [⟨tg, iter, ifs, 0⟩] scope pos) scope X.env (firstIterPos [⟨tg, iter, ifs, 0⟩] pos) (newList []) false (eval iter X.env) (some (assign (.Name y py) X.env))) _ _ s
  have h : tLc wi g tt te (own.map (·.2)) σ H (fun x H1 => gName i x σ H1 D.nx) := h
  refine wpAny_bind (thn (lc_coreR (Qf := fun _ s' => SP X pins D .next s') hs' hf tk hc hN I hi ok hg ht he hs h fun L C s' m H' I' q hn f => ?_) fun _ s' hq => wpAny_pure (wpAny_pure hq))
  show wpAny _ _ (assign (.Name y py) X.env (.ref L)) _ _ _
  refine wpAny_assign_Name (store_ok2 (v := V.ref L) I' hN hy (.inl hyl) rfl (fun s2 I2 ⟨a, sb, ha⟩ => ?_) (.inr hyl))
  obtain ⟨f0, f1, f2, f3, f4, f5⟩ := f
  have haC : C ≠ a := by
    rcases ha with z | z
    · rw [z]; exact f1
    · exact fun e => f4 y a z e.symm
  refine ⟨m, hn.sameBut sb haC, fun h3 sb3 => ?_⟩
  exact ⟨_, H', I2.turned (t' := s2.toks) (fun b o hb e => (sb3.2 b hb).trans e) f0 f1 f3 f4 f5, q⟩
end
end L2N

set_option Elab.async false
set_option linter.all false
set_option maxRecDepth 100000
set_option maxHeartbeats 2000000
/-! GxA: generators whose exceptions are any: what is made, how all is collected, tuple(g) -/
namespace GenXR
open PySem PySem.Spec PyProof.Rows L2 GenW GenX
/-- the end of a run (ex: the iterators that it was given may have turned): the frame is left, all that was handed out stands in S; or an exception leaves it -/
def REndC (P : Program) (w : World) (outer : List Env) (H : Hp) (s : Shared) (ex : List Addr) (S a : Addr) (g : Nat) (Q : List V → Hp → Prop) (C : Value → Shared → Prop) : GenEnd := fun n s₀ r s1 =>
  ((r = .ok (.ret .none) ∨ r = .ok .next) ∧ ∃ H' ys acc c, s1.os = s.os ∧ AllBare s1.gens ∧ Un (frs outer) ex H H' s.heap s1.heap ∧ HOk P w H' s1.heap ∧ H' S = none ∧ s1.heap.get? S = some (lstObj acc c) ∧ Vals ys acc.toList ∧ ys.length ≤ sizeLine ∧ Q ys H') ∨
  ∃ e, r = .error e ∧ C e s1 ∧ s1.heap.IsGen a g
/-- what a call of a generator def gives: a generator that has not begun -/
def GMadeC (P : Program) (w : World) (k : Nat) (outer : List Env) (H : Hp) (s : Shared) (ex : List Addr) (Q : List V → Hp → Prop) (C : Value → Shared → Prop) (u : Value) (s' : Shared) : Prop :=
  ∃ (a : Addr) (g : Nat) (c : Code), u = .ref a ∧ s.heap.objs.size ≤ a ∧ a < s'.heap.objs.size ∧ s'.heap.IsGen a g ∧ s'.gens[g]? = some (.fresh c) ∧ s'.os = s.os ∧ AllBare s'.gens ∧ s'.heap.NoLimit ∧ (∀ b o, s.heap.get? b = some o → s'.heap.get? b = some o) ∧
    ∀ (A : Around) (S : Addr) (s2 : Shared), Room k A → A.frames = some outer → s'.heap.objs.size ≤ S → (∀ b o, s'.heap.get? b = some o → s2.heap.get? b = some o) → (∃ c, s2.heap.get? S = some (lstObj #[] c)) → s2.os = s.os → AllBare s2.gens →
      Seg (model P w) A (REndC P w outer H s ex S a g Q C) (YItem s S a g) sizeLine s2 c ((model P w).den c) [] s2

theorem drainC {P : Program} {w : World} {outer : List Env} {H : Hp} {sc : Shared} {ex : List Addr} {Q : List V → Hp → Prop} {C : Value → Shared → Prop} {A : Around} {R : Result → Shared → Prop} {S a : Addr} {g : Nat} {res : Value}
    (hh : A.handled = none) (hd : A.depth < recursionLimit) (hSa : S ≠ a) (hSc : S ≠ cStatics)
    (hend : ∀ s' acc c H' ys, s'.heap.get? S = some (lstObj acc c) → Vals ys acc.toList → ys.length ≤ sizeLine → s'.os = sc.os → AllBare s'.gens → Un (frs outer) ex H H' sc.heap s'.heap → HOk P w H' s'.heap → H' S = none → Q ys H' → R (.ok (.ret res)) s')
    (hexc : ∀ e s', C e s' → NotStop (model P w) e s'.heap ∧ R (.error e) (s'.setGen g .finished)) :
    ∀ (m : Nat) (s : Shared), s.heap.IsGen a g → s.heap.NoLimit →
      (∃ gs, s.gens[g]? = some gs ∧ gs.Goes (model P w) A.in1.in1 (REndC P w outer H sc ex S a g Q C) (YItem sc S a g) m (.send .none) (s.setGen g .running)) →
      codeAny (model P w) A (.builtin "list.extend.loop" ⟨[.ref S, .ref a, res], []⟩) R s := by
  have goes : ∀ {gs : GenState} {B : Around} {n : Nat} {r : Resume} {s : Shared}, gs.Goes (model P w) B (REndC P w outer H sc ex S a g Q C) (YItem sc S a g) n r s →
      gs.Goes (model P w) B (fun n s₀ r s1 => ((r = .ok (.ret .none) ∨ r = .ok .next) ∧ (∃ H' ys acc c, s1.os = sc.os ∧ AllBare s1.gens ∧ Un (frs outer) ex H H' sc.heap s1.heap ∧ HOk P w H' s1.heap ∧ H' S = none ∧ s1.heap.get? S = some (lstObj acc c) ∧ Vals ys acc.toList ∧ ys.length ≤ sizeLine ∧ Q ys H')) ∨
        ∃ e, r = .error e ∧ (C e s1 ∧ s1.heap.IsGen a g)) (YItem sc S a g) n r s := fun h => h
  intro m
  induction m with
  | zero =>
    intro s hg hl ⟨gs, hgs, hgo⟩
    refine codeAny_builtin F.entry_extend_loop ?_
    rw [Around.under_plainId F.plain_extend_loop _]
    show wpAny _ A.in1 (pyNext (.ref a) >>= _) _ _ s
    refine wpAny_bind (next_genG (A := A.in1) hh hl hd hg hgs (goes hgo) (fun v s₁ gs' hbare hv => ?_) (fun s₁ hp h' hk => ?_) fun e s₁ he => ?_)
    · obtain ⟨_, hb1, _, _, ⟨acc, c, hS1, _⟩, hk⟩ := hv
      exact False.elim (hk _ (Slept.push hS1 hb1))
    · obtain ⟨H', ys, acc, c, os1, hb1, un, hok, hSn, hS1, hv, hle, hQ⟩ := hp
      exact wpAny_pure (hend _ acc c H' ys (hk _ _ hS1) hv hle os1 (allBare_setGen hb1 rfl) (un.trans (Un.kept hk)) (hok.kept hk) hSn hQ)
    · obtain ⟨hc, hg1⟩ := he
      obtain ⟨q1, q2⟩ := hexc e s₁ hc
      exact ⟨hg1, q1, q2⟩
  | succ m ih =>
    intro s hg hl ⟨gs, hgs, hgo⟩
    have hgl : g < s.gens.size := (Array.getElem?_eq_some_iff.mp hgs).1
    refine codeAny_builtin F.entry_extend_loop ?_
    rw [Around.under_plainId F.plain_extend_loop _]
    show wpAny _ A.in1 (pyNext (.ref a) >>= _) _ _ s
    refine wpAny_bind (wpAny_gsz (n := g + 1) hgl (next_genG (A := A.in1) hh hl hd hg hgs (goes hgo) (fun v s₁ gs' hbare hv => ?_) (fun s₁ hp h' hk => ?_) fun e s₁ he => ?_))
    · intro hsz
      obtain ⟨os1, hb1, hl1, hg1, ⟨acc, c, hS1, hasz⟩, hk⟩ := hv
      have hasz' : acc.size < sizeLine := by omega
      show wpAny _ A.in1 (updateSeq S (·.push v) >>= _) _ _ _
      refine wpAny_bind ?_
      refine wpAny_updateSeq hS1 rfl (wpAny_pure ⟨plainId_quiet F.plain_extend_loop _, ?_⟩) (Nat.le_of_lt hasz') (by show (acc.push v).size ≤ sizeLine + 1; rw [Array.size_push]; omega)
      have keep3 : ∀ b o, b ≠ S → s₁.heap.get? b = some o → (s₁.heap.update S (Obj.mapSeq (·.push v))).get? b = some o := fun b o hbS e => (Heap.get?_update_other _ _ (Ne.symm hbS)).trans e
      have hsz1 : g < s₁.gens.size := by
        have q : (s₁.setGen g gs').gens.size = s₁.gens.size := setGen_size _ _ _
        have hsz' : g + 1 ≤ (s₁.setGen g gs').gens.size := hsz
        omega
      refine ih { s₁.setGen g gs' with heap := s₁.heap.update S (Obj.mapSeq (·.push v)) } ?_ ?_ ⟨gs', setGen_at hsz1, ?_⟩
      · obtain ⟨o, nm, qn, ho, r⟩ := hg1
        exact ⟨o, nm, qn, keep3 a o (Ne.symm hSa) ho, r⟩
      · obtain ⟨mc, hns, hnn⟩ := hl1
        exact ⟨mc, hns.at' fun o e => keep3 _ o (Ne.symm hSc) e, hnn⟩
      · exact hk _ (Slept.push hS1 (allBare_setGen (s := s₁.setGen g gs') (allBare_setGen hb1 hbare) rfl))
    · intro hsz
      obtain ⟨H', ys, acc, c, os1, hb1, un, hok, hSn, hS1, hv, hle, hQ⟩ := hp
      exact wpAny_pure (hend _ acc c H' ys (hk _ _ hS1) hv hle os1 (allBare_setGen hb1 rfl) (un.trans (Un.kept hk)) (hok.kept hk) hSn hQ)
    · obtain ⟨hc, hg1⟩ := he
      obtain ⟨q1, q2⟩ := hexc e s₁ hc
      exact ⟨hg1, q1, fun _ => q2⟩

section
variable {P : Program} {w : World} {outer : List Env} {H : Hp} {sc s : Shared} {ex : List Addr} {Q : List V → Hp → Prop} {C : Value → Shared → Prop} {A : Around} {k : Nat} {E : Value → Shared → Prop}
/-- all that a generator hands out, as a list that stands in the heap -/
theorem collect_newC {u : Value} {Qc : List Value → Shared → Prop} (hr : Room (k + 2) A) (hfr : A.frames = some outer) (gm : GMadeC P w k outer H sc ex Q C u s)
    (lost : ∀ e s' g, C e s' → NotStop (model P w) e s'.heap ∧ E e (s'.setGen g .finished))
    (done : ∀ z s' acc c Hn zs, s.heap.objs.size ≤ z → s'.heap.get? z = some (lstObj acc c) → Vals zs acc.toList → zs.length ≤ sizeLine → s'.os = sc.os → AllBare s'.gens → Un (frs outer) ex H Hn sc.heap s'.heap → HOk P w Hn s'.heap → Hn z = none → Q zs Hn → Qc acc.toList s') :
    wpAny (model P w) A (collect u) Qc E s := by
  obtain ⟨a, g, c, rfl, ha1, ha2, hg, hgs, hos, hb, hl, hkp, wake⟩ := gm
  have za : s.heap.objs.size ≠ a := Nat.ne_of_gt ha2
  have zc : s.heap.objs.size ≠ cStatics := Nat.ne_of_gt (let ⟨_, hn, _⟩ := hl; hn.lt)
  have gen : ∀ {h : Heap}, (∀ b o, s.heap.get? b = some o → h.get? b = some o) → h.IsGen a g := fun {h} k => hg.keeps k
  have p1 : ∀ b o, s.heap.get? b = some o → (s.heap.push { cls := .type "list", data := .seq ([] : List Value).toArray }).get? b = some o := fun b o e => Heap.get?_push_of_some _ e
  unfold collect
  refine wpAny_bind (wpAny_runValue (codeAny_builtin F.entry_proto_collect ?_))
  rw [Around.under_plainId F.plain_proto_collect _]
  show wpAny _ A.in1 (newList [] >>= fun z => again (.builtin "list.__iadd__" ⟨[z, .ref a], []⟩)) _ _ s
  refine wpAny_bind (wpAny_newObj_type ?_)
  refine wpAny_pure ⟨plainId_quiet F.plain_list_iadd _, codeAny_builtin F.entry_list_iadd ?_⟩
  rw [Around.under_plainId F.plain_list_iadd _]
  show wpAny _ A.in1 (Builtin.List.listExtendWith (.ref s.heap.objs.size) (.ref a) (.ref s.heap.objs.size)) _ _ _
  have q1 : (s.heap.push { cls := .type "list", data := .seq ([] : List Value).toArray }).get? s.heap.objs.size = some { cls := .type "list", data := .seq ([] : List Value).toArray } := Heap.get?_push_size _ rfl
  have far : ∀ (h : Heap) (f : Obj → Obj), (∀ b o, s.heap.get? b = some o → h.get? b = some o) → ∀ b o, s.heap.get? b = some o → (h.update s.heap.objs.size f).get? b = some o := fun h f q b o e =>
    (Heap.get?_update_other _ _ (Ne.symm (Nat.ne_of_lt (Heap.lt_size e)))).trans (q b o e)
  have d1 : Builtin.List.listSameRef (.ref s.heap.objs.size) (.ref a) = false := by simp [Builtin.List.listSameRef, za]
  have d2 : (Value.type "generator" == Value.type "list") = false ∧ (Value.type "generator" == Value.type "tuple") = false := ⟨by decide, by decide⟩
  unfold Builtin.List.listExtendWith
  refine wpAny_bind (wpAny_typeOf (Heap.IsGen.typeIs (s := { s with heap := _ }) (gen p1)) ?_)
  simp only [d1, d2.1, d2.2, Bool.or_false, Bool.false_eq_true, if_false]
  refine wpAny_bind (wpAny_pyIter_gen (s := { s with heap := _ }) (gen p1) ?_)
  refine (wpAny_bind (wpAny_holding ?_))
  unfold Builtin.List.listLengthHint
  refine wpAny_bind (wpAny_specialOf (Heap.IsGen.typeIs (s := { s with heap := _ }) (gen p1)) F.gen_no_len ?_)
  show wpAny _ A.in1 (specialOf (Value.ref a) (Str.ofString "__length_hint__") >>= _) _ _ _
  refine wpAny_bind (wpAny_specialOf (Heap.IsGen.typeIs (s := { s with heap := _ }) (gen p1)) F.gen_no_hint ?_)
  refine wpAny_pure ?_
  show wpAny _ A.in1 (rule "list.extend.makes-room" >>= fun _ => Builtin.List.listTouch (.ref s.heap.objs.size) >>= fun _ => again (.builtin "list.extend.loop" ⟨[.ref s.heap.objs.size, .ref a, .ref s.heap.objs.size], []⟩)) _ _ _
  refine (wpAny_bind (wpAny_rule (wpAny_bind ?_)))
  show wpAny _ A.in1 (updateSeq s.heap.objs.size (·.push .none) >>= fun _ => updateSeq s.heap.objs.size (·.pop)) _ _ _
  refine (wpAny_bind (wpAny_updateSeq q1 rfl ?_))
  have q2 := Heap.get?_update_self (Obj.mapSeq (·.push Value.none)) q1 rfl
  refine (wpAny_updateSeq (hz := by seq_fits) q2 rfl ?_)
  have q3 := Heap.get?_update_self (Obj.mapSeq (·.pop)) q2 rfl
  have p3 := far _ (Obj.mapSeq (·.pop)) (far _ (Obj.mapSeq (·.push Value.none)) p1)
  refine wpAny_pure ⟨plainId_quiet F.plain_extend_loop _, ?_⟩
  refine drainC (P := P) (w := w) (outer := outer) (H := H) (sc := sc) (ex := ex) (Q := Q) (C := C) (A := A) (g := g) hr.hd (by have := hr.dp; omega) za zc
    (fun s' acc cc Hn zs r1 r2 r3 r4 r5 r6 r7 r8 r9 => ?_) (fun e s' he => lost e s' g he) sizeLine _ (gen p3) (hl.keeps p3) ⟨_, hgs, rfl, wake _ _ _ ⟨hr.hd, ?_, ?_⟩ hfr (Nat.le_refl _) p3 ⟨_, q3⟩ hos (allBare_setGen (s := { s with heap := _ }) hb rfl)⟩
  · refine wpAny_bind (wpAny_load r1 (wpAny_pure ?_))
    exact done _ s' acc cc Hn zs (Nat.le_refl _) r1 r2 r3 r4 r5 r6 r7 r8 r9
  · have := hr.dp
    show A.depth + 3 * k + 5 < _
    omega
  · have := hr.un
    show A.units + 1 + 1 + 16 * k + 200 < _
    omega
/-- tuple(g) -/
theorem call_tup_newC {u : Value} {Qc : Value → Shared → Prop} (hr : Room (k + 3) A) (hfr : A.frames = some outer) (gm : GMadeC P w k outer H sc ex Q C u s)
    (done : ∀ (s' : Shared) (acc : Array Value) (Hn : Hp) (zs : List V) (z : Addr) (c : Nat), s.heap.objs.size ≤ z → s'.heap.get? z = some (lstObj acc c) → Vals zs acc.toList → zs.length ≤ sizeLine → s'.os = sc.os → AllBare s'.gens → Un (frs outer) ex H Hn sc.heap s'.heap → HOk P w Hn s'.heap → Hn z = none → Q zs Hn →
      Qc (.ref s'.heap.objs.size) { s' with heap := s'.heap.push { cls := .type "tuple", data := .seq acc } })
    (lost : ∀ e s' g, C e s' → NotStop (model P w) e s'.heap ∧ E e (s'.setGen g .finished)) :
    wpAny (model P w) A (call (.type "tuple") [u]) Qc E s := by
  obtain ⟨a, g, c, rfl, _, _, hg, _⟩ := id gm
  have hTI : s.TypeIs (.ref a) "generator" := Heap.IsGen.typeIs hg
  have code : codeAny (model P w) A.in1 (.call (.builtin "tuple.__new__") ⟨[.type "tuple", .ref a], []⟩) (wants (fun o s1 => s1.TypeIs o "tuple" ∧ Qc o s1) E) s := by
    refine codeAny_of_tree ?_
    show wpAny _ A.in1.in1 (do checkBuiltinCall "tuple.__new__" ⟨[.type "tuple", .ref a], []⟩; again (.builtin "tuple.__new__" ⟨[.type "tuple", .ref a], []⟩)) _ _ s
    refine wpAny_bind (wpAny_of_eq (F.newCall_tuple_1 _) (wpAny_pure ⟨plainId_quiet F.plain_tuple_new _, codeAny_builtin F.entry_tuple_new ?_⟩))
    rw [Around.under_plainId F.plain_tuple_new _]
    have w1 := sub_tuple_self
    have w2 := init_tuple_lookup
    have w3 := madeHere_tuple
    have hr2 : Room (k + 2) A.in1.in1 := ⟨hr.hd, by have := hr.dp; show A.depth + 3 * (k + 2) + 5 < _ ; omega, by have := hr.un; show A.units + 1 + 1 + 16 * (k + 2) + 200 < _; omega⟩
    wp_walk using wpAny_typeOf hTI, collect_newC (E := fun e s' => wants (fun o s1 => s1.TypeIs o "tuple" ∧ Qc o s1) E (Except.error e) s') hr2 hfr gm (fun e s' g he => lost e s' g he)
    intro z s' acc cc Hn zs r0 r1 r2 r3 r4 r5 r6 r7 r8 r9
    show wpAny _ _ (Builtin.Tuple.tupleExact acc.toList.toArray >>= fun v => ret v) _ _ _
    have e : acc.toList.toArray = acc := by simp
    rw [e]
    unfold Builtin.Tuple.tupleExact
    have le : acc.size ≤ sizeLine := by
      have e1 := r2.length
      have e2 : acc.toList.length = acc.size := by simp
      omega
    refine wpAny_bind (wpAny_newObj_type (wpAny_pure ⟨⟨_, Heap.get?_push_size _ rfl, rfl⟩, done s' acc Hn zs z cc r0 r1 r2 r3 r4 r5 r6 r7 r8 r9⟩) le)
  refine callType_codes (Q₁ := fun o s1 => s1.TypeIs o "tuple" ∧ Qc o s1) F.called_tuple (F.typeCall_tuple_1 _) F.entry_object_init code fun o s1 h1 => ?_
  exact ⟨h1.1, F.args_object_init_2 o _, object_init_meets F.called_tuple.init.lookup F.called_tuple.made (by decide) P w A.in1 _ s1 ⟨h1.1, rfl, h1.2⟩⟩
end
end GenXR

set_option Elab.async false
set_option linter.all false
set_option maxRecDepth 100000
set_option maxHeartbeats 2000000
/-! GxB: a generator expression whose element may raise (context None): its frame, its loop, its making; tuple(g) -/
namespace GenXR
open PySem PySem.Spec PyProof.Rows L2 GenW GenX
/-- the state without some objects -/
def hid (s : Shared) (fp : List Addr) : Shared := { s with heap := PySem.W.hideAll s.heap fp }
theorem hid_of {s : Shared} {fp : List Addr} {b : Addr} {o : Obj} (e : (hid s fp).heap.get? b = some o) : s.heap.get? b = some o ∧ b ∉ fp := by
  refine ⟨PySem.W.of_hideAll fp e, fun hm => ?_⟩
  have z : (hid s fp).heap.get? b = none := PySem.W.hideAll_none fp hm
  rw [z] at e; cases e
theorem hid_get {s : Shared} {fp : List Addr} {b : Addr} {o : Obj} (e : s.heap.get? b = some o) (h : b ∉ fp) : (hid s fp).heap.get? b = some o := PySem.W.hideAll_get _ e h
theorem hid_size {s : Shared} {fp : List Addr} : (hid s fp).heap.objs.size = s.heap.objs.size := PySem.W.hideAll_size _ _
theorem inv_hid {X : Cx} {pins : List (Addr × Obj)} {σ : L2.St} {H : Hp} {s : Shared} {fp : List Addr} (I : Inv X pins σ H s) (hf : ∀ b ∈ fp, FpOk X pins H b) : Inv X pins σ H (hid s fp) := by
  refine I.call' (s' := hid s fp) (ch := fp) rfl ⟨fun b o e _ _ h => hid_get e h, fun b o e _ _ h => ⟨o.slots, hid_get e h⟩, fun _ _ _ n _ => n, fun b o e h => ⟨o, hid_get e h⟩, fun _ _ e => e, fun _ _ _ e => e, fun b ps e => ⟨#[], by rw [e]; simp⟩⟩ ?_ I.bare
    fun b hb => ⟨(hf b hb).2.2.2.1, (hf b hb).2.1, (hf b hb).2.2.2.2.1, (hf b hb).2.2.2.2.2⟩
  intro b o q
  refine (I.hok b o q).stay (fun c u hc r => hid_get r fun hm => ?_) (fun _ r => r) fun _ _ r => r
  have z := (hf c hm).1
  rcases hc with hc | hc
  · rw [← hc, z] at q; cases q
  · rw [z] at hc; cases hc
/-- an exception leaves a frame whose own iterators are not in its ground -/
theorem leaveG {X : Cx} {W : L2.WX} {E : XK} {s' : Shared} (hs : X.stack = X.env :: X.outer) (hf : X.env.frame = some X.env.locals) (hex : ∀ b ∈ X.ex, X.s_0.heap.get? b = none) {E₁ : Value → Shared → Prop} (hW : ∀ cls d σ H, W cls d σ H → E cls d H) {u : Value} (x : L2N.XE X W u s') :
    wpAny (model X.prog X.w) X.A (leaving X.env u) (fun _ s'' => L2N.CX X.prog X.w X.outer X.H_0 X.s_0 E u s'' ∧ ∀ p ∈ X.pn, s''.heap.get? p.1 = some p.2) E₁ s' := by
  obtain ⟨a, B, sI, pins, σ, H, cls, d, rfl, I, nb, up, sky, na, os, ag, w⟩ := x
  have hfr : X.A.frames = some (X.env :: X.outer) := by rw [I.ok.frames, hs]
  have nst : ∀ b o, X.s_0.heap.get? b = some o → b ∉ X.fs → b ∉ frs X.stack := fun b o e hb hm => by
    rcases List.mem_cons.mp (I.stkSub b hm) with z | z
    · have h1 := Heap.lt_size e
      have h2 := I.ok.above
      rw [z] at h1
      exact absurd (Nat.lt_of_lt_of_le h1 h2) (Nat.lt_irrefl _)
    · exact hb z
  have hex' : ∀ b o, X.s_0.heap.get? b = some o → b ∉ X.ex := fun b o e hb => by rw [hex b hb] at e; cases e
  have hokB := I.inGround nb
  have fin : ∀ h', HandSPX.FlyingZ B X.outer a (L2N.Zn cls d) h' → s'.heap.UpToSlots h' → L2N.CX X.prog X.w X.outer X.H_0 X.s_0 E (.ref a) { s' with heap := h' } ∧ ∀ p ∈ X.pn, h'.get? p.1 = some p.2 := fun h' fl up' => by
    refine ⟨⟨a, B, H, cls, d, rfl, fl, hokB, ⟨fun b o e n hb => nb b o (I.base.keep b o e n hb (hex' b o e)) (nst b o e hb), fun b o e hb => ?_, fun b o e n => I.base.free b o e n (hex' b o e), fun b o e hb => ?_, I.base.tups, I.base.frzs, I.base.tbls⟩,
      na, os.trans I.os, ag, hW _ _ _ _ w⟩, fun p hp => ?_⟩
    · obtain ⟨_, o₀, e₀, hnf⟩ := I.ok.funs.mem hb
      rw [e] at e₀; cases e₀
      obtain ⟨sl, e1⟩ := I.base.slot b o e (I.ok.frf b hb) hb (hex' b o e)
      obtain ⟨sl2, e2⟩ := up b _ e1 hnf
      obtain ⟨sl3, e3⟩ := up' b _ e2 hnf
      exact ⟨sl3, e3⟩
    · obtain ⟨o', e1⟩ := I.base.there b o e (hex' b o e)
      exact ⟨o', nb b o' e1 (nst b o e hb)⟩
    · obtain ⟨p1, _, p3, p4, _⟩ := I.pin p (List.mem_append_left _ hp)
      refine fl.1 _ _ (nb _ _ p1 fun hm => ?_)
      rcases List.mem_cons.mp (I.stkSub p.1 hm) with z | z
      · exact p3 z
      · exact p4 z
  rw [hs] at sky
  rcases sky with ⟨hB, hn, hl, oe, vs, he, hz, hd, h1⟩ | fl | hd
  · exact PXN.leaving_firstZ L2N.Zn.steady hfr hl hf he hB hn hd h1 hz fin
  · exact PXN.leaves_onZ L2N.Zn.steady hfr hf fl fin
  · exact HandSPX.leaves_heldZ hf hd fin
/-- the frame of a generator expression that may raise EX -/
def gxCx (X : Cx) (B : Around) (s : Shared) (H : Hp) (env : Env) (fp : List Addr) (pn : List (Addr × Obj)) (EX : XK) : Cx :=
  { gexCx X B s H env fp pn with xe := fun e s' => wpAny (model X.prog X.w) (B.deeper env) (leaving env e) (fun _ s'' => L2N.CX X.prog X.w X.stack H s EX e s'' ∧ ∀ p ∈ pn, s''.heap.get? p.1 = some p.2) (fun _ _ => False) s' }
theorem takes_gx {X : Cx} {B : Around} {s : Shared} {H : Hp} {env : Env} {fp : List Addr} {pn : List (Addr × Obj)} {EX : XK} (hf : env.frame = some env.locals) (hno : ∀ b ∈ fp, s.heap.get? b = none) :
    L2N.Takes (gxCx X B s H env fp pn EX) (fun cls d _ G => EX cls d G) := fun u s' x =>
  leaveG (X := gxCx X B s H env fp pn EX) (W := fun cls d _ G => EX cls d G) (E := EX) rfl hf hno (fun _ _ _ _ h => h) x
/-- its end: all is out, or an exception has left it -/
def GEC (Y : Cx) (S : Addr) (Q : List V → Hp → Prop) (C : Value → Shared → Prop) : GenEnd := fun n _ r s => (r = .ok .next ∧ ∃ ys ip σ H, n + ys.length = sizeLine ∧ GI Y S ip ys σ H s ∧ Q ys H) ∨ ∃ e, r = .error e ∧ C e s
section
variable {Y : Cx} {S : Addr} {B : Around} {elt tg iter : Expr} {ifs : List Expr} {scope : Scope} {pos : Pos} {fp : List Addr} {it : Addr} {tn : Nat → Heap → Prop} {J : It} {g : TG} {tt : TT} {te : TE} {vs : List Nat} {σ : L2.St} {cont : List V → Hp → Prop} {W : Nat → Nat → List V → Hp → Prop}
theorem gex_loopR (hc : Y.calm = true) {C : Value → Shared → Prop} (hx : Y.xe = fun e s' => wpAny (model Y.prog Y.w) Y.A (leaving Y.env e) (fun _ s'' => C e s'') (fun _ _ => False) s') (hf : Y.ex = fp) (hco : Y.env.scope.isCoroutine = false) (hov : ∀ c : Code, c = .compLoop (.GeneratorExp elt [⟨tg, iter, ifs, 0⟩] scope pos) 0 (.ref it) .none Y.env → B.over c [] = Y.A) (hA : Apart Y S) (hpn : ∀ p ∈ Y.pn, p.1 ≠ S) (hpf : ∀ p ∈ Y.pn, p.1 ∉ fp) (hSf : S ∉ fp)
    (T : Turn Y.prog Y.w Y.K tg J fp it tn) (pg : PG Y tg g) (pt : PTs Y ifs tt) (pe : PE Y elt te) (tu : Turns J g tt te vs σ cont W) :
    ∀ (m n i : Nat) (ys : List V) (s₀ s : Shared) (H : Hp), n + ys.length = sizeLine → W i m ys H → GI Y S [] ys (wipe σ vs) H s → tn i s.heap → (∀ b ∈ fp, H b = none) →
      Seg (model Y.prog Y.w) B (GEC Y S cont C) (GY Y S) n s₀ (.compLoop (.GeneratorExp elt [⟨tg, iter, ifs, 0⟩] scope pos) 0 (.ref it) .none Y.env)
        ((model Y.prog Y.w).den (.compLoop (.GeneratorExp elt [⟨tg, iter, ifs, 0⟩] scope pos) 0 (.ref it) .none Y.env)) [] s := by
  have hover := hov _ rfl
  have stat : ∀ {σ' : L2.St} {H' : Hp} {s' : Shared} {acc : Array Value} {c : Nat}, Inv Y [(S, lstObj acc c)] σ' H' s' → (∀ b ∈ fp, H' b = none) → ∀ b ∈ fp, FpOk Y [(S, lstObj acc c)] H' b := fun {σ' H' s' acc c} I hn b hb => by
    have hb' : b ∈ Y.ex := by rw [hf]; exact hb
    refine ⟨hn b hb, (I.ok.exf b hb').1, I.ok.exfs b hb', .inl hb', fun x c e => (I.ok.exf b hb').2 x c e, fun p hp => ?_⟩
    rcases List.mem_append.mp hp with z | z
    · exact fun e => hpf p z (e ▸ hb)
    · rw [List.mem_singleton.mp z]
      exact fun e => hSf (by rw [show S = b from e]; exact hb)
  have dead : ∀ {n : Nat} {s₀ : Shared} {e : Value} {s' : Shared}, Y.xe e s' → Seg (model Y.prog Y.w) B (GEC Y S cont C) (GY Y S) n s₀ (.compLoop (.GeneratorExp elt [⟨tg, iter, ifs, 0⟩] scope pos) 0 (.ref it) .none Y.env) ((leaving Y.env e).bind fun _ => .raise e) [] s' := fun {n s₀ e s'} h => by
    rw [hx] at h
    refine seg_bind (m := leaving Y.env e) ?_
    rw [hover]
    exact wpAny_mono h (fun _ s'' q => seg_end (.error e) (.inr ⟨e, rfl, q⟩)) fun _ _ z => z.elim
  intro m
  induction m using Nat.strongRecOn with
  | ind m ih =>
    intro n i ys s₀ s H hn w hI st hnf
    obtain ⟨acc, c, r, I⟩ := hI
    show Seg _ B _ _ _ s₀ _ ((compTurn (.GeneratorExp elt [⟨tg, iter, ifs, 0⟩] scope pos) 0 (.ref it) .none Y.env).onRaise (leaving Y.env)) [] s
    rw [compTurn_gen, Sem.onRaise_eq_wrap]
    refine seg_bind_wrap (wpAny_standAt ?_)
    rcases tu i m ys H w with ⟨stop, q⟩ | ⟨go, Nx, hNx, step⟩
    · have td := T.done Y rfl rfl rfl hc i [(S, lstObj acc c)] s _ H (fun _ _ => False) I (stat I hnf) st stop
      refine seg_bind_wrap ?_
      rw [hover]
      refine wpAny_mono td (fun z s6 hz => ?_) fun _ _ e => e.elim
      obtain ⟨rfl, I6⟩ := hz
      exact seg_end (.ok .next) (.inl ⟨rfl, ys, [], _, H, hn, ⟨acc, c, r, I6⟩, q⟩)
    · have ti := T.item Y rfl rfl rfl hc i [(S, lstObj acc c)] s _ H (fun _ _ => False) I (stat I hnf) st go
      refine seg_bind_wrap ?_
      rw [hover]
      refine wpAny_mono ti (fun z s6 hz => ?_) fun _ _ e => e.elim
      obtain ⟨u, rfl, h6⟩ := hz
      refine seg_bind_wrap ?_
      rw [hover]
      refine wpAny_mono h6 (fun _ s7 h7 => ?_) fun _ _ e => e.elim
      obtain ⟨x, H7, I7, r7, y7, st7, n7⟩ := h7
      have I7' := I7.pinned (stat I7 n7) (T.obj _ _ st7)
      refine seg_bind_wrap ?_
      rw [hover]
      refine wpAny_mono (pg.run _ s7 _ H7 x u _ I7' r7 (step x H7 y7)) (fun _ s8 h8 => ?_) fun _ _ e => dead (n := n) (s₀ := s₀) e
      obtain ⟨σ8, H8, I8, hw8, q8⟩ := h8
      refine seg_bind_wrap ?_
      rw [hover]
      refine wpAny_mono (pt.run _ s8 σ8 H8 _ I8 q8) (fun b s9 h9 => ?_) fun _ _ e => dead (n := n) (s₀ := s₀) e
      obtain ⟨H9, I9, q9⟩ := h9
      have hl8 : (wipe σ vs).length = σ8.length := by rw [← hw8, wipe_length]
      -- behind the turn
      have turn : ∀ {n' : Nat} {s₀' s' : Shared} {H' : Hp} {zs : List V}, n' + zs.length = sizeLine → GI Y S (pinsAt fp s7.heap) zs σ8 H' s' → Nx zs H' → Seg (model Y.prog Y.w) B (GEC Y S cont C) (GY Y S) n' s₀' (.compLoop (.GeneratorExp elt [⟨tg, iter, ifs, 0⟩] scope pos) 0 (.ref it) .none Y.env)
          ((model Y.prog Y.w).den (.compLoop (.GeneratorExp elt [⟨tg, iter, ifs, 0⟩] scope pos) 0 (.ref it) .none Y.env)) [] s' := fun {n' s₀' s' H' zs} hn' hG nx => by
        obtain ⟨m', hm, w'⟩ := hNx zs H' nx
        obtain ⟨acc', c', r', I'⟩ := hG
        have pin' : ∀ b ∈ fp, ∀ o, s7.heap.get? b = some o → s'.heap.get? b = some o ∧ H' b = none := fun b hb o e =>
          let z := I'.pin (b, o) (List.mem_append_right _ (List.mem_cons_of_mem _ (mem_pinsAt hb e)))
          ⟨z.1, z.2.1⟩
        have I2 : Inv Y [(S, lstObj acc' c')] σ8 H' s' := I'.pins_of fun p hp => I'.pin p (List.mem_append_right _ (by rw [List.mem_singleton.mp hp]; exact List.mem_cons_self))
        refine ih m' hm n' (i + 1) zs s₀' s' H' hn' w' ⟨acc', c', r', I2.weak hl8 fun j v e => ?_⟩ (T.keep _ _ _ st7 fun b hb o e => (pin' b hb o e).1) fun b hb => ?_
        · rw [← hw8] at e
          exact (wipe_some e).1
        · obtain ⟨o, e, _⟩ := T.obj _ _ st7 b hb
          exact (pin' b hb o e).2
      cases b with
      | false =>
        simp only [Bool.false_eq_true, if_false] at q9 ⊢
        exact seg_again rfl (turn hn ⟨acc, c, r, I9⟩ q9)
      | true =>
        simp only [if_true] at q9 ⊢
        have hy : ∀ v, yieldOut Y.env v = yieldValue v := fun v => by simp only [yieldOut, hco, Bool.false_eq_true, if_false]
        simp only [hy]
        rw [Sem.bind_eq_wrap', Sem.bind_eq_wrap', Sem.wrap_wrap, Sem.wrap_wrap]
        refine seg_wrap ?_
        rw [hover]
        refine wpAny_mono (pe.run _ s9 σ8 H9 _ I9 q9) (fun v s10 h10 => ?_) fun _ _ e => dead (n := n) (s₀ := s₀) e
        obtain ⟨yv, H10, I10, r10, hlt, nx⟩ := h10
        obtain ⟨n', rfl⟩ : ∃ n', n = n' + 1 := ⟨n - 1, by omega⟩
        have hip : ∀ p ∈ pinsAt fp s7.heap, p.1 ≠ S := fun p hp e => hSf (e ▸ (of_pinsAt hp).1)
        refine seg_at (seg_yield rfl rfl rfl ⟨ys, yv, pinsAt fp s7.heap, σ8, H10, hn, r10, ⟨acc, c, r, I10⟩, fun s'' hz => ?_⟩)
        exact seg_again rfl (turn (by rw [List.length_append, List.length_singleton]; omega) (GI.woken hpn hip hA ⟨acc, c, r, I10⟩ r10 hz) nx)
end
/-- what is pinned in the frame, if it holds -/
theorem gx_pin {X : Cx} {B : Around} {s s1 : Shared} {H H' : Hp} {env : Env} {fp : List Addr} {pn pins : List (Addr × Obj)} {σ : L2.St} {EX : XK} (I : Inv (gexCx X B s H env fp []) [] σ H' s1)
    (h : ∀ p ∈ pn ++ pins, s1.heap.get? p.1 = some p.2 ∧ H' p.1 = none ∧ p.1 ≠ env.locals ∧ p.1 ∉ frs X.stack ∧ ∀ v, p.2.data ≠ .cell v) : Inv (gxCx X B s H env fp pn EX) pins σ H' s1 :=
  ⟨⟨I.ok.mod, I.ok.kind, I.ok.glob, I.ok.blt, I.ok.above, I.ok.inj, I.ok.has, I.ok.cab, I.ok.hd, I.ok.frames, I.ok.stk, I.ok.exf, I.ok.bs, I.ok.bsz, I.ok.noex, I.ok.exfs, I.ok.funs, I.ok.frf⟩, I.os, I.bare, I.base, I.loc, I.cell, I.free, I.freeC, h, I.hok, I.len⟩
section
variable {X : Cx} {pins : List (Addr × Obj)} {σ : L2.St} {H : Hp} {s : Shared} {elt tg iter : Expr} {ifs : List Expr} {scope : Scope} {pos : Pos} {fp : List Addr} {it : Addr} {tn : Nat → Heap → Prop} {J : It} {g : TG} {tt : TT} {te : TE} {own : List (Str × Nat)} {cont : List V → Hp → Prop} {k : Nat} {EX : XK}
theorem gex_madeR {sc : Shared} {code : Value} {h' : Heap} {nm qn : Value} {tk : Nat} (hsc : sc.heap.objs.size = s.heap.objs.size) (hsub : ∀ b o, sc.heap.get? b = some o → s.heap.get? b = some o) (hno : ∀ b ∈ fp, sc.heap.get? b = none) (hso : sc.os = s.os) (hsg : AllBare s.gens) (I : Inv X pins σ H sc) (ok : BlkOk X.N X.env.scope scope own) (hN : X.N.Nodup) (hcell : ∀ y ∈ scope.names, y.2 ≠ .cell) (hco : scope.isCoroutine = false)
    (T : Turn X.prog X.w X.K tg J fp it tn) (st : tn 0 s.heap) (hfp : ∀ b ∈ fp, FpOk X pins H b)
    (hns : h'.Ns s.heap.objs.size fun y => if y = ".0" then some (.ref it) else none) (hsz : h'.objs.size = s.heap.objs.size + 1) (kp : ∀ b o, s.heap.get? b = some o → h'.get? b = some o)
    (pg : ∀ (B : Around) (pn : List (Addr × Obj)), Room k (B.deeper (gexE X scope s.heap.objs.size code)) → PG (gxCx X B sc H (gexE X scope s.heap.objs.size code) fp pn EX) tg g)
    (pt : ∀ (B : Around) (pn : List (Addr × Obj)), Room k (B.deeper (gexE X scope s.heap.objs.size code)) → PTs (gxCx X B sc H (gexE X scope s.heap.objs.size code) fp pn EX) ifs tt)
    (pe : ∀ (B : Around) (pn : List (Addr × Obj)), Room k (B.deeper (gexE X scope s.heap.objs.size code)) → L2N.Takes (gxCx X B sc H (gexE X scope s.heap.objs.size code) fp pn EX) (fun cls d _ G => EX cls d G) → PE (gxCx X B sc H (gexE X scope s.heap.objs.size code) fp pn EX) elt te)
    (q : ∃ W : Nat → Nat → List V → Hp → Prop, (∃ m, W 0 m [] H) ∧ Turns J g tt te (own.map (·.2)) σ cont W) :
    GMadeC X.prog X.w (k + 1) X.stack H sc fp cont (fun e s' => L2N.CX X.prog X.w X.stack H sc EX e s') (.ref h'.objs.size)
      { s with gens := s.gens.push (.fresh (.compStart (.GeneratorExp elt [⟨tg, iter, ifs, 0⟩] scope pos) 0 (.ref it) .none (gexE X scope s.heap.objs.size code))), toks := tk, heap := h'.push { cls := .type "generator", data := .fields #[.int s.gens.size 0, nm, qn] } } := by
  obtain ⟨W, ⟨m0, w0⟩, tu⟩ := q
  have here : (h'.push { cls := .type "generator", data := .fields #[.int s.gens.size 0, nm, qn] }).get? h'.objs.size = some { cls := .type "generator", data := .fields #[.int s.gens.size 0, nm, qn] } := Heap.get?_push_size _ rfl
  have kg : ∀ b o, s.heap.get? b = some o → (h'.push { cls := .type "generator", data := .fields #[.int s.gens.size 0, nm, qn] }).get? b = some o := fun b o e => Heap.get?_push_of_some _ (kp b o e)
  have isg : ∀ h : Heap, h.get? h'.objs.size = some { cls := .type "generator", data := .fields #[.int s.gens.size 0, nm, qn] } → h.IsGen h'.objs.size s.gens.size := fun h e => ⟨_, nm, qn, e, rfl, rfl, rfl⟩
  refine ⟨h'.objs.size, s.gens.size, _, rfl, by rw [hsz, hsc]; exact Nat.le_succ _, by show _ < (h'.push _).objs.size; rw [Heap.size_push]; exact Nat.lt_succ_self _, isg _ here, Array.getElem?_push_size .., hso.symm, hsg.push rfl, I.nolimit.keeps (fun b o e => kg b o (hsub b o e)), fun b o e => kg b o (hsub b o e), ?_⟩
  intro B S s2 hr hfr hS hk hSo hos hbare
  have hrk : Room k (B.deeper (gexE X scope s.heap.objs.size code)) := hr.deeper _
  have lt : ∀ b ∈ fp, b < s.heap.objs.size := fun b hb => by
    obtain ⟨o, e, _⟩ := T.obj _ _ st b hb
    exact Heap.lt_size e
  have k2 : ∀ b o, s.heap.get? b = some o → s2.heap.get? b = some o := fun b o e => hk b o (kg b o e)
  have hns2 : s2.heap.Ns s.heap.objs.size fun y => if y = ".0" then some (.ref it) else none := hns.keeps fun b o e => hk b o (Heap.get?_push_of_some _ e)
  have I1 := gex_start (B := B) (own := own) (code := code) (it := .ref it) I ok hN hcell (fun b hb => ⟨hfp b hb, by rw [hsc]; exact lt b hb⟩) hr.hd hfr hos hbare (fun b o e => k2 b o (hsub b o e)) (by rw [hsc]; exact hns2)
  rw [hsc] at I1
  have hSz : h'.objs.size < S := by
    have : (h'.push { cls := .type "generator", data := .fields #[.int s.gens.size 0, nm, qn] }).objs.size ≤ S := hS
    rw [Heap.size_push] at this
    exact this
  obtain ⟨cS, eS⟩ := hSo
  have eg := hk _ _ here
  have young : ∀ b, s.heap.objs.size < b → H b = none ∧ b ≠ s.heap.objs.size ∧ b ∉ frs X.stack ∧ s.heap.objs.size ≤ b ∧ (∀ y c, (cloFrom X.env.cells scope.names []).lookup y = some c → c ≠ b) ∧ b ∉ fp := fun b hb => by
    refine ⟨I.hok.fresh (by rw [hsc]; exact Nat.le_of_lt hb), Nat.ne_of_gt hb, fun hm => ?_, Nat.le_of_lt hb, fun y c e z => ?_, fun hm => absurd (Nat.lt_trans hb (lt b hm)) (Nat.lt_irrefl _)⟩
    · rcases List.mem_cons.mp (I.stkSub b hm) with z | z
      · have := I.lt
        rw [← z, hsc] at this
        exact absurd (Nat.lt_trans hb this) (Nat.lt_irrefl _)
      · exact I.nofs (by rw [hsc]; exact Nat.le_of_lt hb) z
    · obtain ⟨v, o, ho, _⟩ := I.cell y c (clo_back I.ok ok e)
      have := Heap.lt_size ho
      rw [z, hsc] at this
      exact absurd (Nat.lt_trans hb this) (Nat.lt_irrefl _)
  have hgs : s.heap.objs.size < h'.objs.size := by rw [hsz]; exact Nat.lt_succ_self _
  obtain ⟨g1, g2, g3, g4, g5, g6⟩ := young h'.objs.size hgs
  obtain ⟨u1, u2, u3, u4, u5, u6⟩ := young S (Nat.lt_trans hgs hSz)
  have hI : GI (gxCx X B sc H (gexE X scope s.heap.objs.size code) fp [(h'.objs.size, { cls := .type "generator", data := .fields #[.int s.gens.size 0, nm, qn] })] EX) S [] [] (wipe σ (own.map (·.2))) H s2 := by
    refine ⟨#[], cS, .nil, gx_pin I1 fun p hp => ?_⟩
    rcases List.mem_append.mp hp with z | z <;> rw [List.mem_singleton.mp z]
    · exact ⟨eg, g1, g2, g3, (fun v e => nomatch e)⟩
    · exact ⟨eS, u1, u2, u3, (fun v e => nomatch e)⟩
  have hne : ∀ p ∈ (gxCx X B sc H (gexE X scope s.heap.objs.size code) fp [(h'.objs.size, { cls := .type "generator", data := .fields #[.int s.gens.size 0, nm, qn] })] EX).pn, p.1 ≠ S := fun p hp => by
    rw [List.mem_singleton.mp hp]
    exact Nat.ne_of_lt hSz
  have hpf : ∀ p ∈ (gxCx X B sc H (gexE X scope s.heap.objs.size code) fp [(h'.objs.size, { cls := .type "generator", data := .fields #[.int s.gens.size 0, nm, qn] })] EX).pn, p.1 ∉ fp := fun p hp => by
    rw [List.mem_singleton.mp hp]
    exact g6
  have hAp : Apart (gxCx X B sc H (gexE X scope s.heap.objs.size code) fp [(h'.objs.size, { cls := .type "generator", data := .fields #[.int s.gens.size 0, nm, qn] })] EX) S := ⟨by rw [← hsc] at u4; exact u4, u2, u5⟩
  have own2 : ∀ {ip : List (Addr × Obj)} {ys : List V} {s' : Shared} {σ' : L2.St} {H' : Hp}, GI (gxCx X B sc H (gexE X scope s.heap.objs.size code) fp [(h'.objs.size, { cls := .type "generator", data := .fields #[.int s.gens.size 0, nm, qn] })] EX) S ip ys σ' H' s' → s'.heap.IsGen h'.objs.size s.gens.size := fun {ip ys s' σ' H'} h => by
    obtain ⟨acc, cc, _, K⟩ := h
    exact isg _ (K.pin (h'.objs.size, _) (List.mem_append_left _ (List.mem_singleton.mpr rfl))).1
  have st2 : tn 0 s2.heap := T.keep _ _ _ st fun b _ o e => k2 b o e
  refine seg_imp (fun n s₀ r s1' hR => ?_) (fun n s₀ v s1' kap kap' hkk hY => ?_) sizeLine (gex_begin (Y := gxCx X B sc H (gexE X scope s.heap.objs.size code) fp [(h'.objs.size, { cls := .type "generator", data := .fields #[.int s.gens.size 0, nm, qn] })] EX) T st2 (gex_loopR (C := fun e s'' => L2N.CX X.prog X.w X.stack H sc EX e s'' ∧ ∀ p ∈ [(h'.objs.size, ({ cls := .type "generator", data := .fields #[.int s.gens.size 0, nm, qn] } : Obj))], s''.heap.get? p.1 = some p.2) rfl rfl rfl hco (fun c hc => over_gex (.inl hc)) hAp hne hpf u6 T (pg B _ hrk) (pt B _ hrk) (pe B _ hrk (takes_gx rfl hno)) tu m0 sizeLine 0 [] s2 s2 H (Nat.add_zero _) w0 hI st2 fun b hb => (hfp b hb).1))
  · rcases hR with ⟨rfl, ys, ip, σ', H', hn, hG, hQ⟩ | ⟨e, rfl, hc, hp⟩
    · obtain ⟨a1, _, _, acc, cc, ra, ea⟩ := hG.at
      obtain ⟨_, _, _, K⟩ := hG
      exact .inl ⟨.inr rfl, H', ys, acc, cc, K.os, K.bare, K.base, K.hok, a1, ea, ra, by omega, hQ⟩
    · exact .inr ⟨e, rfl, hc, isg _ (hp _ (List.mem_singleton.mpr rfl))⟩
  · obtain ⟨ys, xx, ip, σ', H', hn, rx, hG, hw⟩ := hY
    obtain ⟨_, _, _, acc, cc, ra, ea⟩ := hG.at
    have hg := own2 hG
    obtain ⟨_, _, _, K⟩ := hG
    have hl : acc.size = ys.length := by
      have e1 := ra.length
      have e2 : acc.toList.length = acc.size := by simp
      omega
    exact ⟨K.os, K.bare, K.nolimit, hg, ⟨acc, cc, ea, by rw [hl]; exact hn⟩, fun s' z => hkk _ _ (hw s' z)⟩
end
/-- an expression whose value is a generator that has not begun; it may raise E (context None) -/
structure PGenC (X : Cx) (k : Nat) (e : Expr) (tg : TGen) (E : XK) : Prop where
  run : ∀ (pins : List (Addr × Obj)) (s : Shared) (σ : L2.St) (H : Hp) (cont : List V → Hp → Prop), Inv X pins σ H s → tg σ H cont → wpAny (model X.prog X.w) X.A (eval e X.env)
    (fun u s' => ∃ H1 sc ex, Inv X pins σ H1 sc ∧ ExOk X pins ex ∧ GMadeC X.prog X.w k X.stack H1 sc ex cont (fun e s' => L2N.CX X.prog X.w X.stack H1 sc E e s') u s') X.xe s
section
variable {X : Cx} {elt tg iter : Expr} {ifs : List Expr} {scope : Scope} {pos : Pos} {g : TG} {tt : TT} {te : TE} {own : List (Str × Nat)} {wi : TI} {k : Nat} {EX : XK} {c P : Addr}
theorem pgen_gexR (hd : X.A.handled = none) (hdep : X.A.depth < recursionLimit) (TB : GxR.TabB X.base X.mg c P) (hcode : X.env.code = .ref c) (ok : BlkOk X.N X.env.scope scope own) (hN : X.N.Nodup) (hcell : ∀ y ∈ scope.names, y.2 ≠ .cell) (hco : scope.isCoroutine = false) (dot : scope.names.lookup (".0" : Str) = some NameKind.local)
    (hi : PI X tg iter wi) (hs : ∀ v, genFold iter X.env v = pure v)
    (pg : ∀ (B : Around) (s : Shared) (H : Hp) (C : Addr) (code : Value) (fp : List Addr) (pn : List (Addr × Obj)), Room k (B.deeper (gexE X scope C code)) → PG (gxCx X B s H (gexE X scope C code) fp pn EX) tg g)
    (pt : ∀ (B : Around) (s : Shared) (H : Hp) (C : Addr) (code : Value) (fp : List Addr) (pn : List (Addr × Obj)), Room k (B.deeper (gexE X scope C code)) → PTs (gxCx X B s H (gexE X scope C code) fp pn EX) ifs tt)
    (pe : ∀ (B : Around) (s : Shared) (H : Hp) (C : Addr) (code : Value) (fp : List Addr) (pn : List (Addr × Obj)), Room k (B.deeper (gexE X scope C code)) → L2N.Takes (gxCx X B s H (gexE X scope C code) fp pn EX) (fun cls d _ G => EX cls d G) → PE (gxCx X B s H (gexE X scope C code) fp pn EX) elt te) :
    PGenC X (k + 1) (.GeneratorExp elt [⟨tg, iter, ifs, 0⟩] scope pos) (tGex P wi g tt te (own.map (·.2))) EX := by
  refine ⟨fun pins s σ H cont I h => ?_⟩
  have hfree : ∀ y ∈ scope.names, y.2 = .free → ∃ c, X.env.cells.lookup y.1 = some c := fun y hy e => (ok.free y hy e).elim (fun k => I.ok.has _ (.inl k)) fun k => I.ok.has _ (.inr k)
  refine wpAny_GeneratorExp_make hco (closure_ok hfree) hcell dot ok.kind hdep (thn (hi.run pins s σ H _ I h) fun xv s1 hx => thn hx fun itv s2 h2 => ⟨?_, ?_⟩) hs
  · obtain ⟨it, fp, tn, J, H2, e, I2, _⟩ := h2
    exact I2.nolimit
  obtain ⟨it, fp, tn, J, H2, rfl, I2, T, st2, f2, ps, hP, ht, q⟩ := h2
  have hPs : s2.heap.get? P = some { cls := .none, data := .fields ps } := I2.hok P _ hP
  have cd : PySem.W.CodeHd s2.heap c P := TB.code.keeps fun b u e => I2.bk b u e
  have cont2 : ∀ (code : Value) (h3 : Heap) (tk : Nat) (more : Array Value), Heap.ExtBut P s2.heap h3 → s2.heap.objs.size ≤ h3.objs.size → h3.get? P = some { cls := .none, data := .fields (ps ++ more) } → TriplesOk (ps ++ more).toList →
      wpAny (model X.prog X.w) X.A (builtinsFor X.env.globals X.env.builtins) (fun bi s₄ => ∀ h' : Heap, h'.Ns s₄.heap.objs.size (fun y => if y = ".0" then some (.ref it) else none) → Heap.SameBut s₄.heap.objs.size (s₄.heap.push { cls := .type "frame", data := .dict #[] }) h' →
        (fun u s' => ∃ H1 sc ex, Inv X pins σ H1 sc ∧ ExOk X pins ex ∧ GMadeC X.prog X.w (k + 1) X.stack H1 sc ex cont (fun e s' => L2N.CX X.prog X.w X.stack H1 sc EX e s') u s') (.ref h'.objs.size)
          { s₄ with gens := s₄.gens.push (.fresh (.compStart (.GeneratorExp elt [⟨tg, iter, ifs, 0⟩] scope pos) 0 (.ref it) .none (genEnv scope (cloFrom X.env.cells scope.names []) s₄.heap.objs.size code bi X.env))), toks := s₄.toks + 1 + 1 + 1,
                    heap := h'.push { cls := .type "generator", data := .fields #[.int s₄.gens.size 0, .str "<genexpr>" (s₄.toks + 1), .str (X.env.qual ++ "<genexpr>") (s₄.toks + 1 + 1)] } }) X.xe { s2 with heap := h3, toks := tk } := by
    intro code h3 tk more hx hsz hP3 ht3
    obtain ⟨bm, ob, e1, e2, e3, e4, e5, e6, e7, e8⟩ := TB.bm
    have I3 : Inv X pins σ (upd H2 P (.tbl (ps ++ more))) { s2 with heap := h3, toks := tk } := GxR.inv_tab (more := more) (h' := h3) (g' := s2.gens) (d' := s2.drawn) (t' := tk) I2 hP (fun b u hb e => hx b u hb e) hP3 I2.bare
    have apart : ∀ b ∈ fp, b ≠ P := fun b hb z => by
      have := (f2 b hb).1
      rw [z, hP] at this
      cases this
    have f3 : ∀ b ∈ fp, FpOk X pins (upd H2 P (.tbl (ps ++ more))) b := fun b hb => ⟨by rw [upd_ne (apart b hb)]; exact (f2 b hb).1, (f2 b hb).2⟩
    have st3 : tn 0 h3 := T.keep _ _ _ st2 fun b hb o e => hx b o (apart b hb) e
    refine wpAny_builtinsFor (m := X.mg) (by rw [I2.ok.glob]; exact (I2.mod.glob.keeps I2.bk).extBut hx TB.gP) e1 e2 (hx _ _ e4 (I2.bk _ _ e5)) e6 e7 e8 ?_
    intro h' hn' hs'
    refine ⟨_, hid { s2 with heap := h3, toks := tk } fp, fp, inv_hid I3 f3, fun b hb => ?_, gex_madeR (own := own) (code := code) (s := { s2 with heap := h3, toks := tk }) hid_size (fun b o e => (hid_of e).1) (fun b hb => PySem.W.hideAll_none _ hb) rfl I3.bare (inv_hid I3 f3) ok hN hcell hco T st3 f3 hn' (by rw [hs'.1, Heap.size_push]) (fun b o e => hs'.extBut b o (Nat.ne_of_lt (Heap.lt_size e)) (Heap.get?_push_of_some _ e)) (fun B pn => pg B _ _ _ _ _ pn) (fun B pn => pt B _ _ _ _ _ pn) (fun B pn => pe B _ _ _ _ _ pn) (q _ ht3)⟩
    obtain ⟨_, a1, _, a3, a4, a5⟩ := f2 b hb
    exact ⟨a3, a1, a4, a5⟩
  cases hf : codeAmong pos ps.toList with
  | none =>
    refine PySem.wpAny_genexprCodeX hcode (cd.code hPs ht) (cd.tab hPs) hf fun c' h' tk hx hge hlt hco' _ htab' _ => ?_
    obtain ⟨o1, vs, f1, tf, fl, tg', inF, tx, tt', op, _, _, _, _, _, _, _, _, _, htr, _⟩ := hco'
    exact cont2 _ h' tk _ hx (Nat.le_trans hge (Nat.le_of_lt hlt)) htab'.2 htr
  | some cv =>
    refine PySem.wpAny_genexprCode_hit hcode (cd.code hPs ht) hf ?_
    exact cont2 cv s2.heap s2.toks #[] (Heap.ExtBut.refl _ _) (Nat.le_refl _) (by simpa using hPs) (by simpa using ht)
end
/-- it is no StopIteration -/
theorem notStopN {P : Program} {w : World} {K : PySem.W.Frag} {outer : List Env} {H : Hp} {s s' : Shared} {E : XK} {e : Value} (hE : NoStop K E) (kin : K.In s'.heap) (c : L2N.CX P w outer H s E e s') : NotStop (model P w) e s'.heap := by
  obtain ⟨a, B, H', cls, d, rfl, fl, _, _, _, _, _, hW⟩ := c
  obtain ⟨oe, vs, he, hz, hd⟩ := fl.there
  have L := PySem.W.looks_subIn (M := model P w) kin (hE cls d H' hW)
  intro A Q E' s2 hs hq
  simp only [isInstance]
  refine wpAny_bind (wpAny_typeOf_ref (o := oe) (by rw [hs]; exact he) ?_)
  rw [hz.1]
  exact L A Q E' s2 (fun b o z => by rw [hs]; exact z) hq
/-- tuple(g), where g may raise -/
theorem pe_tupGR {X : Cx} {k : Nat} {e : Expr} {tg : TGen} {E : XK} {p pos : Pos} (h : PGenC X k e tg E) (hx : Passes (L2N.CX X.prog X.w) X E) (hns : NoStop X.K E) (hr : Room (k + 3) X.A) (hg : Gl X "tuple") (hmg : X.mg "tuple" = none)
    (he : starEach [e] X.env = (false, eval e X.env) :: starEach [] X.env := by rfl) : PE X (.Call (.Name "tuple" p) [e] [] pos) (tTupG tg) := by
  refine ⟨fun pins s σ H Q I hq => ?_⟩
  refine wpAny_Call_Name_kw (ld_blt I hg hmg boot_tuple (PyProof.Rows.callWith_type1 ?_ he rfl))
  rw [he]
  show wpAny _ _ (spliced ((false, eval e X.env) :: backTo pos (starEach [] X.env))) _ _ s
  refine Calls.spliced_cons (thn (h.run pins s σ H _ I hq) fun u s1 ⟨H1, sc, ex, I1, hex, gm⟩ => Calls.spliced_nil ?_)
  refine call_tup_newC hr I1.ok.frames gm (fun s' acc Hn zs z c r0 r1 r2 r3 r4 r5 r6 r7 r8 r9 => ?_) fun x s' g hc => ?_
  · have I2 : Inv X pins σ Hn s' := I1.call' r4 r6 r7 r5 hex
    exact ⟨.ref s'.heap.objs.size, upd Hn s'.heap.objs.size (.tup zs), I2.laid (t' := s'.toks) (fun b o e => Heap.get?_push_of_some _ e) (Nat.le_refl _) (show ObjOk X.prog X.w _ _ _ (.tup zs) from ⟨r3, acc.toList, r2, by simpa using IsTup.new s'.heap acc⟩), rfl, r9 _ (I2.hok.fresh (Nat.le_refl _))⟩
  · have kin : X.K.In s'.heap := by
      obtain ⟨a, B, H', cls, d, _, fl, _, ub, _⟩ := id hc
      refine I1.ok.mod.kin.keeps fun b o eb => fl.1 b o (ub.keep b o (I1.bs b o eb).1 (I1.bs b o eb).2 fun hm => ?_)
      rcases List.mem_cons.mp (I1.stkSub b hm) with z | z
      · have h1 := Heap.lt_size eb
        have h2 := Nat.le_trans I1.ok.bsz I1.ok.above
        rw [z] at h1
        exact absurd (Nat.lt_of_lt_of_le h1 h2) (Nat.lt_irrefl _)
      · exact I1.ok.nofr eb z
    refine ⟨notStopN hns kin hc, hx pins σ H1 sc x _ I1 ?_⟩
    obtain ⟨a, B, H', cls, d, z1, fl, z2, ub, z3, z4, z5, z6⟩ := hc
    exact ⟨a, B, H', cls, d, z1, fl, z2, ub, z3, z4, allBare_setGen z5 rfl, z6⟩
end GenXR

set_option Elab.async false
set_option linter.all false
set_option maxRecDepth 100000
set_option maxHeartbeats 4000000
/-! ### numbers and last parts, read -/
namespace S02
open PySem PySem.Spec PyProof.Rows L2 K5 SupX GenX TL
/-- a comprehension over a text's signs -/
theorem lc_its {x : Str} {g : TG} {tt : L2.TT} {te : TE} {vs : List Nat} {σ : L2.St} {H1 : Hp} {D : Addr} {Qd : Hp → Prop} (Pv : Nat → Hp → Prop) (h0 : Pv 0 (upd H1 D (.lst [])))
    (hs : ∀ i c H, x.cps[i]? = some c → Pv i H → g (.str ⟨#[c]⟩) (wipe σ vs) H fun σ2 H2 => wipe σ2 vs = wipe σ vs ∧ tt σ2 H2 fun b H3 =>
      if b = true then te σ2 H3 fun y H4 => ∃ acc, H4 D = some (.lst acc) ∧ acc.length < sizeLine ∧ Pv (i + 1) (upd H4 D (.lst (acc ++ [y]))) else Pv (i + 1) H3) (hd : ∀ H, Pv x.cps.size H → Qd H) :
    ∃ W : Nat → Nat → Hp → Prop, (∃ m, W 0 m (upd H1 D (.lst []))) ∧ ∀ i m H, W i m H →
      ((Its x).stop i H ∧ Qd H) ∨ ((Its x).go i H ∧ ∃ Nx : Hp → Prop, (∀ H', Nx H' → ∃ m', m' < m ∧ W (i + 1) m' H') ∧ ∀ y H', (Its x).yld i H y H' → g y (wipe σ vs) H' fun σ2 H2 => wipe σ2 vs = wipe σ vs ∧ tt σ2 H2 fun b H3 =>
        if b = true then te σ2 H3 fun y H4 => ∃ acc, H4 D = some (.lst acc) ∧ acc.length < sizeLine ∧ Nx (upd H4 D (.lst (acc ++ [y]))) else Nx H3) := by
  refine ⟨fun i m H => m = x.cps.size - i ∧ i ≤ x.cps.size ∧ Pv i H, ⟨x.cps.size, by simp, Nat.zero_le _, h0⟩, ?_⟩
  rintro i m H ⟨rfl, hi, p⟩
  by_cases hlt : i < x.cps.size
  · refine .inr ⟨hlt, Pv (i + 1), fun H' p' => ⟨x.cps.size - (i + 1), by omega, rfl, hlt, p'⟩, fun y H' z => ?_⟩
    obtain ⟨e, c, hc, rfl⟩ := z
    subst e
    exact hs i c _ hc p
  · have e : i = x.cps.size := by omega
    subst e
    exact .inl ⟨Nat.le_refl _, hd H p⟩
end S02

set_option Elab.async false
set_option linter.all false
set_option maxRecDepth 100000
set_option maxHeartbeats 4000000
/-! ### deeds, rows and texts read -/
namespace S02
open PySem PySem.Spec PyProof.Rows L2 K5 SupX GenX TL
theorem cut_last (ys : List V) (y : V) : cutV (ys ++ [y]) none (some (-1)) = ys := by
  unfold cutV HT.sIx
  simp
  rw [show (-1 + ((ys.length : Int) + 1)).toNat = ys.length by omega]
  exact List.take_left' rfl
end S02

set_option Elab.async false
set_option linter.all false
set_option maxRecDepth 100000
set_option maxHeartbeats 4000000
/-! ### rows and texts read -/
namespace S02
open PySem PySem.Spec PyProof.Rows L2 K5 SupX GenX TL
/-- a comprehension over such an enumeration -/
theorem lc_enT {sq : Hp → Prop} {ys : List V} {g : TG} {tt : L2.TT} {te : TE} {vs : List Nat} {σ : L2.St} {H1 : Hp} {D : Addr} {Qd : Hp → Prop} (Pv : Nat → Hp → Prop) (h0 : Pv 0 (upd H1 D (.lst []))) (hq : ∀ i H, Pv i H → sq H)
    (hs : ∀ (i : Nat) (y : V) (T : Addr) (H : Hp), ys[i]? = some y → Pv i H → H T = none → g (.ref T) (wipe σ vs) (upd H T (.tup [.int (i : Nat), y])) fun σ2 H2 => wipe σ2 vs = wipe σ vs ∧ tt σ2 H2 fun b H3 =>
      if b = true then te σ2 H3 fun z H4 => ∃ acc, H4 D = some (.lst acc) ∧ acc.length < sizeLine ∧ Pv (i + 1) (upd H4 D (.lst (acc ++ [z]))) else Pv (i + 1) H3) (hd : ∀ H, Pv ys.length H → Qd H) :
    ∃ W : Nat → Nat → Hp → Prop, (∃ m, W 0 m (upd H1 D (.lst []))) ∧ ∀ i m H, W i m H →
      ((ItE sq ys).stop i H ∧ Qd H) ∨ ((ItE sq ys).go i H ∧ ∃ Nx : Hp → Prop, (∀ H', Nx H' → ∃ m', m' < m ∧ W (i + 1) m' H') ∧ ∀ x H', (ItE sq ys).yld i H x H' → g x (wipe σ vs) H' fun σ2 H2 => wipe σ2 vs = wipe σ vs ∧ tt σ2 H2 fun b H3 =>
        if b = true then te σ2 H3 fun y H4 => ∃ acc, H4 D = some (.lst acc) ∧ acc.length < sizeLine ∧ Nx (upd H4 D (.lst (acc ++ [y]))) else Nx H3) := by
  refine ⟨fun i m H => m = ys.length - i ∧ i ≤ ys.length ∧ Pv i H, ⟨_, rfl, Nat.zero_le _, h0⟩, ?_⟩
  rintro i m H ⟨rfl, hi, p⟩
  by_cases lt : i < ys.length
  · refine .inr ⟨⟨hq i H p, lt⟩, Pv (i + 1), fun G p' => ⟨ys.length - (i + 1), by omega, rfl, by omega, p'⟩, fun v G yl => ?_⟩
    obtain ⟨T, y, rfl, hT, rfl, e2⟩ := yl
    exact hs i y T H e2 p hT
  · have e : i = ys.length := by omega
    subst e
    exact .inl ⟨⟨hq _ H p, rfl⟩, hd H p⟩
end S02

set_option Elab.async false
set_option linter.all false
set_option maxRecDepth 100000
set_option maxHeartbeats 4000000
/-! ### texts of deals, read: pure facts -/
namespace S02
open PySem PySem.Spec PyProof.Rows L2 K5 TL
abbrev dgs (x : Str) : Nat := NumText.digitsVal (tl x)
/-- the number that a text tells -/
def numR (x : Str) : Option Nat := if 1 ≤ (tl x).length ∧ (tl x).length ≤ 4 ∧ (∀ c ∈ tl x, 48 ≤ c ∧ c ≤ 57) ∧ nS (dgs x : Int) = x then some (dgs x) else none
theorem numR_some {x : Str} {n : Nat} (h : numR x = some n) : x = nS (n : Int) ∧ n < 10000 ∧ (tl x).length ≤ 4 := by
  unfold numR at h
  split at h
  · rename_i c
    obtain ⟨c1, c2, c3, c4⟩ := c
    cases h
    refine ⟨c4.symm, ?_, c2⟩
    have e := congrArg tl c4
    rw [nS_nat] at e
    have hb : ∀ (l : List Nat) (a : Nat), (∀ c ∈ l, 48 ≤ c ∧ c ≤ 57) → l.foldl (fun acc c => acc * 10 + (c - 48)) a < (a + 1) * 10 ^ l.length := by
      intro l
      induction l with
      | nil => intro a _; simp
      | cons d r ih =>
        intro a hd
        have h1 := hd d List.mem_cons_self
        have h2 := ih (a * 10 + (d - 48)) fun c hc => hd c (List.mem_cons_of_mem _ hc)
        rw [List.foldl_cons, List.length_cons, Nat.pow_succ]
        refine Nat.lt_of_lt_of_le h2 ?_
        have h3 : a * 10 + (d - 48) + 1 ≤ (a + 1) * 10 := by omega
        have := Nat.mul_le_mul_right (10 ^ r.length) h3
        rw [Nat.mul_assoc, Nat.mul_comm 10] at this
        exact this
    have h9 := hb (tl x) 0 c3
    have h10 : (10 : Nat) ^ (tl x).length ≤ 10 ^ 4 := Nat.pow_le_pow_right (by decide) c2
    show NumText.digitsVal (tl x) < 10000
    have h11 : NumText.digitsVal (tl x) < (0 + 1) * 10 ^ (tl x).length := h9
    omega
  · cases h
theorem numR_nS {n : Nat} (h : n < 10000) : numR (nS (n : Int)) = some n := by
  have e : dgs (nS (n : Int)) = n := by unfold dgs; rw [nS_nat]; exact numL_val n
  unfold numR
  rw [e, nS_nat]
  refine if_pos ⟨List.length_pos_iff.mpr (numL_ne n), numL_len (by decide) h, fun c hc => ?_, rfl⟩
  by_cases a : c < 48 ∨ 57 < c
  · exact absurd hc (numL_free a)
  · omega

theorem fold_pos : ∀ (l : List Nat) (a : Nat), 1 ≤ a → 1 ≤ l.foldl (fun acc c => acc * 10 + (c - 48)) a
  | [], _, h => h
  | c :: r, a, h => fold_pos r (a * 10 + (c - 48)) (by omega)
theorem val_snoc (l : List Nat) (d : Nat) : NumText.digitsVal (l ++ [d]) = NumText.digitsVal l * 10 + (d - 48) := by
  unfold NumText.digitsVal
  rw [List.foldl_append]
  rfl
/-- figures, the first not 0 (or one alone), are their number's -/
theorem numL_of : ∀ (r : List Nat) (d : Nat), (∀ c ∈ r.reverse ++ [d], 48 ≤ c ∧ c ≤ 57) → (r = [] ∨ r.reverse.head? ≠ some 48) → numL (NumText.digitsVal (r.reverse ++ [d])) = r.reverse ++ [d]
  | [], d, h, _ => by
    have hd := h d (by simp)
    have e : NumText.digitsVal ([d]) = d - 48 := by unfold NumText.digitsVal; simp
    show numL (NumText.digitsVal [d]) = [d]
    rw [e, numL_lt (by omega)]
    congr 1
    omega
  | d' :: r', d, h, hh => by
    have hh : (d' :: r').reverse.head? ≠ some 48 := hh.elim (fun z => by cases z) id
    rw [List.reverse_cons] at h hh ⊢
    have hne : r'.reverse ++ [d'] ≠ [] := by simp
    have ih := numL_of r' d' (fun c hc => h c (List.mem_append_left _ hc)) (by
      cases r' with
      | nil => exact .inl rfl
      | cons a b =>
        refine .inr fun z => hh ?_
        rw [List.head?_append, z]
        rfl)
    have hd := h d (by simp)
    generalize r'.reverse ++ [d'] = l at *
    cases l with
    | nil => exact absurd rfl hne
    | cons c r =>
      have hc := h c (by simp)
      have hc48 : c ≠ 48 := fun z => hh (by rw [z]; rfl)
      have v1 : 1 ≤ NumText.digitsVal (c :: r) := by
        unfold NumText.digitsVal
        rw [List.foldl_cons]
        exact fold_pos r (0 * 10 + (c - 48)) (by omega)
      rw [val_snoc, numL_step (by omega), show (NumText.digitsVal (c :: r) * 10 + (d - 48)) / 10 = NumText.digitsVal (c :: r) by omega, ih]
      congr 2
      omega
/-- figures are read, unless they begin with a 0 and go on -/
theorem numR_fig {x : Str} {c : Nat} {r : List Nat} (e : tl x = c :: r) (h4 : (tl x).length ≤ 4) (hf : ∀ c ∈ tl x, 48 ≤ c ∧ c ≤ 57) (hz : ¬ (c = 48 ∧ r ≠ [])) : numR x = some (dgs x) := by
  unfold numR
  refine if_pos ⟨by rw [e]; simp, h4, hf, ext_tl ?_⟩
  rw [nS_nat]
  have key := numL_of (tl x).dropLast.reverse ((tl x).getLast (by rw [e]; simp)) (by rw [List.reverse_reverse, List.dropLast_concat_getLast]; exact hf) (by
    rw [List.reverse_reverse]
    cases r with
    | nil => left; rw [e]; rfl
    | cons d q =>
      right
      rw [e]
      intro z
      have z : some c = some 48 := z
      cases z
      exact hz ⟨rfl, by simp⟩)
  rw [List.reverse_reverse, List.dropLast_concat_getLast] at key
  exact key
theorem numR_zero {x : Str} {r : List Nat} (e : tl x = 48 :: r) (hr : r ≠ []) : numR x = none := by
  cases h : numR x with
  | none => rfl
  | some n =>
    obtain ⟨ex, _, _⟩ := numR_some h
    have e2 := congrArg tl ex
    rw [nS_nat, e] at e2
    by_cases z : n < 10
    · rw [numL_lt z] at e2
      injection e2 with _ e2
      exact absurd e2 hr
    · obtain ⟨c, q, e3, hc⟩ := numL_head n (by omega)
      rw [e3] at e2
      injection e2 with e2 _
      exact absurd e2.symm hc
theorem numR_len {x : Str} (h : ¬ (1 ≤ (tl x).length ∧ (tl x).length ≤ 4)) : numR x = none := by
  unfold numR
  rw [if_neg]
  rintro ⟨h1, h2, _⟩
  exact h ⟨h1, h2⟩
theorem numR_odd {x : Str} (h : ¬ ∀ c ∈ tl x, 48 ≤ c ∧ c ≤ 57) : numR x = none := by
  unfold numR
  rw [if_neg]
  rintro ⟨_, _, h1, _⟩
  exact h h1
theorem numR_free {x : Str} {n c : Nat} (h : numR x = some n) (hc : c < 48 ∨ 57 < c) : c ∉ tl x := fun hm => by
  obtain ⟨e, _, _⟩ := numR_some h
  rw [e, nS_nat] at hm
  exact numL_free hc hm
theorem int_dgs {x : Str} (hf : ∀ c ∈ tl x, 48 ≤ c ∧ c ≤ 57) (hne : tl x ≠ []) (h4 : (tl x).length ≤ 4) : intText? x = some ((dgs x : Nat) : Int) :=
  intText_digits hf hne (by rw [len_tl]; omega)
/-- a last part that may be below 0 -/
def moreR (x : Str) : Option Int := match tl x with
  | 45 :: r => (match numR ⟨r.toArray⟩ with
    | some n => if 0 < n then some (-(n : Int)) else none
    | none => none)
  | _ => (numR x).map Int.ofNat
def worthR (x : Str) : Option (Option Int) := if x = "-" then some none else (numR x).map fun n => some (n : Int)
def deedW : List Str → Option Dd
  | [w, a] => if w = "drop" then (numR a).map fun (k : Nat) => Dd.drop (k : Int) else none
  | [w, a, b] => if w = "add" then (match numR a, moreR b with
      | some k, some m => some (.add k m)
      | _, _ => none) else if w = "if" then (match numR a, worthR b with
      | some k, some m => some (.iff k m)
      | _, _ => none) else none
  | [w, a, b, c] => if w = "put" then (match numR a, numR b, numR c with
      | some k, some m, some l => some (.put k m l)
      | _, _, _ => none) else none
  | _ => none
def deedR (x : Str) : Option Dd := deedW (Txt.split x " ")
def deedsR : List Str → Option (List Dd)
  | [] => some []
  | x :: r => match deedR x, deedsR r with
    | some d, some ds => some (d :: ds)
    | _, _ => none
def headR : List Str → Option (Nat × Nat)
  | [a, b] => (match numR a, numR b with
    | some h, some y => some (h, y)
    | _, _ => none)
  | _ => none
def bothR : Option (Nat × Nat) → Option (List Dd) → Option Gd
  | some (h, y), some ds => some ⟨h, y, ds⟩
  | _, _ => none
theorem bothR_none (o : Option (Nat × Nat)) : bothR o none = none := by cases o <;> rfl
/-- a row -/
def rowR (x : Str) : Option Gd := match Txt.partition x ": " with
  | (hd, co, ta) => if co = "" then none else bothR (headR (Txt.split hd " ")) (deedsR (Txt.split ta "; "))
/-! cuts -/
theorem spl_len {S : List Nat} : ∀ (k : Nat) (l acc : List Nat), l.length ≤ k → (spl S 0 acc l).length ≤ l.length + 1 ∧ ∀ p ∈ spl S 0 acc l, p.length ≤ acc.length + l.length ∧ ∀ c ∈ p, c ∈ acc ++ l
  | 0, l, acc, h => by
    cases l with
    | nil => rw [spl_nil]; exact ⟨Nat.le_refl _, fun p hp => by rw [List.mem_singleton.mp hp]; exact ⟨by simp, fun c hc => by simpa using hc⟩⟩
    | cons c r => simp at h
  | k + 1, l, acc, h => by
    cases l with
    | nil => rw [spl_nil]; exact ⟨by simp, fun p hp => by rw [List.mem_singleton.mp hp]; exact ⟨by simp, fun c hc => by simpa using hc⟩⟩
    | cons c r =>
      rw [List.length_cons] at h
      cases hp : pre S (c :: r) with
      | true =>
        rw [spl_hit hp, spl_pass]
        have hl : (r.drop (S.length - 1)).length ≤ r.length := by rw [List.length_drop]; omega
        obtain ⟨h1, h2⟩ := spl_len (S := S) k (r.drop (S.length - 1)) [] (by omega)
        refine ⟨by rw [List.length_cons, List.length_cons]; omega, fun p hp => ?_⟩
        rcases List.mem_cons.mp hp with rfl | hp
        · exact ⟨by omega, fun c hc => List.mem_append_left _ hc⟩
        · obtain ⟨h3, h4⟩ := h2 p hp
          refine ⟨by rw [List.length_cons]; simp at h3; omega, fun d hd => ?_⟩
          have := h4 d hd
          rw [List.nil_append] at this
          exact List.mem_append_right _ (List.mem_cons_of_mem _ (List.mem_of_mem_drop this))
      | false =>
        rw [spl_miss hp]
        obtain ⟨h1, h2⟩ := spl_len (S := S) k r (acc ++ [c]) (by omega)
        refine ⟨by rw [List.length_cons]; omega, fun p hp => ?_⟩
        obtain ⟨h3, h4⟩ := h2 p hp
        refine ⟨by rw [List.length_append] at h3; rw [List.length_cons]; simp at h3; omega, fun d hd => ?_⟩
        have := h4 d hd
        simpa using this
/-- what is no sign of the separator stands in a piece -/
theorem spl_keeps {S : List Nat} {c : Nat} (hS0 : S ≠ []) (hc : c ∉ S) : ∀ (k : Nat) (l acc : List Nat), l.length ≤ k → c ∈ acc ++ l → ∃ p ∈ spl S 0 acc l, c ∈ p
  | 0, l, acc, h, hm => by
    cases l with
    | nil => rw [spl_nil]; exact ⟨acc, List.mem_singleton.mpr rfl, by simpa using hm⟩
    | cons c r => simp at h
  | k + 1, l, acc, h, hm => by
    cases l with
    | nil => rw [spl_nil]; exact ⟨acc, List.mem_singleton.mpr rfl, by simpa using hm⟩
    | cons d r =>
      rw [List.length_cons] at h
      cases hp : pre S (d :: r) with
      | true =>
        rw [spl_hit hp, spl_pass]
        rcases List.mem_append.mp hm with hm | hm
        · exact ⟨acc, List.mem_cons_self, hm⟩
        · have e : (d :: r).take S.length = S := by unfold pre at hp; exact eq_of_beq hp
          have e2 : d :: r = S ++ (d :: r).drop S.length := by conv => lhs; rw [← List.take_append_drop S.length (d :: r), e]
          rw [e2] at hm
          rcases List.mem_append.mp hm with hm | hm
          · exact absurd hm hc
          · cases hS : S.length with
            | zero => exact absurd (List.length_eq_zero_iff.mp hS) hS0
            | succ n =>
              rw [hS, List.drop_succ_cons] at hm
              obtain ⟨p, h1, h2⟩ := spl_keeps (S := S) hS0 hc k (r.drop (S.length - 1)) [] (by rw [List.length_drop]; omega) (by rw [hS, List.nil_append]; exact hm)
              rw [hS] at h1
              exact ⟨p, List.mem_cons_of_mem _ h1, h2⟩
      | false =>
        rw [spl_miss hp]
        exact spl_keeps hS0 hc k r (acc ++ [d]) (by omega) (by simpa using hm)
end S02

set_option Elab.async false
set_option linter.all false
set_option maxRecDepth 100000
set_option maxHeartbeats 4000000
/-! ### rows, read: pure facts -/
namespace S02
open PySem PySem.Spec PyProof.Rows L2 K5 TL
/-- a plain separator -/
structure SepOk (y : Str) : Prop where
  ne : tl y ≠ []
  pl : y.cps.all (· < 256) = true
theorem sepS : SepOk " " := ⟨by decide +kernel, by decide +kernel⟩
theorem sepD : SepOk "; " := ⟨by decide +kernel, by decide +kernel⟩
theorem sepC : SepOk ": " := ⟨by decide +kernel, by decide +kernel⟩
theorem sepN : SepOk "\n" := ⟨by decide +kernel, by decide +kernel⟩
theorem SepOk.spl {y : Str} (h : SepOk y) (x : Str) : (Txt.split x y).map tl = spl (tl y) 0 [] (tl x) := split_spl x y h.ne (kind_ok h.pl)
theorem SepOk.len {y : Str} (h : SepOk y) (x : Str) : (Txt.split x y).length ≤ (tl x).length + 1 := by
  have := congrArg List.length (h.spl x)
  rw [List.length_map] at this
  rw [this]
  exact (spl_len (tl x).length (tl x) [] (Nat.le_refl _)).1
theorem SepOk.pcs {y : Str} (h : SepOk y) {x p : Str} (hp : p ∈ Txt.split x y) : (tl p).length ≤ (tl x).length := by
  have hm : tl p ∈ (Txt.split x y).map tl := List.mem_map.mpr ⟨p, hp, rfl⟩
  rw [h.spl x] at hm
  have := ((spl_len (tl x).length (tl x) [] (Nat.le_refl _)).2 _ hm).1
  simpa using this
theorem SepOk.keeps {y : Str} (h : SepOk y) {x : Str} {c : Nat} (hc : c ∉ tl y) (hm : c ∈ tl x) : ∃ p ∈ Txt.split x y, c ∈ tl p := by
  obtain ⟨q, h1, h2⟩ := spl_keeps h.ne hc (tl x).length (tl x) [] (Nat.le_refl _) (by simpa using hm)
  rw [← h.spl x] at h1
  obtain ⟨p, hp, rfl⟩ := List.mem_map.mp h1
  exact ⟨p, hp, h2⟩
theorem spl_ne {S : List Nat} : ∀ (l acc : List Nat), spl S 0 acc l ≠ []
  | [], acc => by rw [spl_nil]; simp
  | c :: r, acc => by
    cases hp : pre S (c :: r) with
    | true => rw [spl_hit hp]; simp
    | false => rw [spl_miss hp]; exact spl_ne r _
theorem SepOk.some {y : Str} (h : SepOk y) (x : Str) : Txt.split x y ≠ [] := fun e => by
  have := h.spl x
  rw [e] at this
  exact spl_ne _ _ this.symm
/-! numbers' words are free of signs that are none -/
theorem moreR_free {x : Str} {m : Int} (h : moreR x = some m) : 58 ∉ tl x := by
  unfold moreR at h
  split at h
  · rename_i r e
    split at h
    · rename_i n hn
      rw [e]
      intro hm
      rcases List.mem_cons.mp hm with hm | hm
      · cases hm
      · exact numR_free hn (.inr (by decide)) hm
    · cases h
  · cases hn : numR x with
    | none => rw [hn] at h; cases h
    | some n => exact numR_free hn (.inr (by decide))
theorem worthR_free {x : Str} {m : Option Int} (h : worthR x = some m) : 58 ∉ tl x := by
  unfold worthR at h
  split at h
  · rename_i e
    rw [e]
    decide +kernel
  · cases hn : numR x with
    | none => rw [hn] at h; cases h
    | some n => exact numR_free hn (.inr (by decide))
theorem deedW_free {ws : List Str} {d : Dd} (h : deedW ws = some d) : ∀ w ∈ ws, 58 ∉ tl w := by
  have wd : ∀ {w : Str} {z : String}, w = Str.ofString z → 58 ∉ tl (Str.ofString z) → 58 ∉ tl w := fun e h => e ▸ h
  unfold deedW at h
  split at h
  · rename_i w a
    split at h
    · rename_i e
      cases ha : numR a with
      | none => rw [ha] at h; cases h
      | some n =>
        intro v hv
        simp only [List.mem_cons, List.not_mem_nil, or_false] at hv
        rcases hv with rfl | rfl
        · rw [e]; decide +kernel
        · exact numR_free ha (.inr (by decide))
    · cases h
  · rename_i w a b
    split at h
    · rename_i e
      split at h
      · rename_i k m h1 h2
        intro v hv
        simp only [List.mem_cons, List.not_mem_nil, or_false] at hv
        rcases hv with rfl | rfl | rfl
        · rw [e]; decide +kernel
        · exact numR_free h1 (.inr (by decide))
        · exact moreR_free h2
      · cases h
    · split at h
      · rename_i e
        split at h
        · rename_i k m h1 h2
          intro v hv
          simp only [List.mem_cons, List.not_mem_nil, or_false] at hv
          rcases hv with rfl | rfl | rfl
          · rw [e]; decide +kernel
          · exact numR_free h1 (.inr (by decide))
          · exact worthR_free h2
        · cases h
      · cases h
  · rename_i w a b c
    split at h
    · rename_i e
      split at h
      · rename_i k m l h1 h2 h3
        intro v hv
        simp only [List.mem_cons, List.not_mem_nil, or_false] at hv
        rcases hv with rfl | rfl | rfl | rfl
        · rw [e]; decide +kernel
        · exact numR_free h1 (.inr (by decide))
        · exact numR_free h2 (.inr (by decide))
        · exact numR_free h3 (.inr (by decide))
      · cases h
    · cases h
  · cases h
theorem deedR_free {x : Str} {d : Dd} (h : deedR x = some d) : 58 ∉ tl x := fun hm => by
  obtain ⟨w, hw, hc⟩ := sepS.keeps (c := 58) (by decide +kernel) hm
  exact deedW_free h w hw hc
theorem deedsR_all : ∀ {xs : List Str} {ds : List Dd}, deedsR xs = some ds → Paired (fun x d => deedR x = some d) xs ds
  | [], ds, h => by cases h; exact .nil
  | x :: r, ds, h => by
    unfold deedsR at h
    split at h
    · rename_i d es h1 h2
      cases h
      exact .cons h1 (deedsR_all h2)
    · cases h
theorem deedsR_bad : ∀ {xs : List Str} {i : Nat} {x : Str}, xs[i]? = some x → deedR x = none → deedsR xs = none
  | [], _, _, h, _ => by cases h
  | y :: r, 0, x, h, hx => by
    cases h
    unfold deedsR
    rw [hx]
  | y :: r, i + 1, x, h, hx => by
    unfold deedsR
    rw [deedsR_bad (xs := r) (i := i) h hx]
    split
    · rename_i h1 h2; cases h2
    · rfl
theorem deedsR_free {t : Str} {ds : List Dd} (h : deedsR (Txt.split t "; ") = some ds) : 58 ∉ tl t := fun hm => by
  obtain ⟨p, hp, hc⟩ := sepD.keeps (c := 58) (by decide +kernel) hm
  obtain ⟨i, hi⟩ := List.mem_iff_getElem?.mp hp
  cases e : deedR p with
  | none => rw [deedsR_bad hi e] at h; cases h
  | some d => exact deedR_free e hc
/-! a row's halves -/
theorem spl_par {S : List Nat} (hS : S ≠ []) : ∀ (l acc : List Nat), (∃ a b, par S acc l = some (a, b) ∧ spl S 0 acc l = a :: spl S 0 [] b ∧ b.length ≤ l.length ∧ a.length ≤ acc.length + l.length) ∨ (par S acc l = none ∧ spl S 0 acc l = [acc ++ l])
  | [], acc => .inr ⟨rfl, by rw [spl_nil, List.append_nil]⟩
  | c :: r, acc => by
    cases hp : pre S (c :: r) with
    | true =>
      refine .inl ⟨acc, (c :: r).drop S.length, par_hit hp, ?_, by rw [List.length_drop]; omega, by omega⟩
      rw [spl_hit hp, spl_pass]
      congr 2
      cases h : S.length with
      | zero => exact absurd (List.length_eq_zero_iff.mp h) hS
      | succ n => rw [List.drop_succ_cons]; rfl
    | false =>
      rw [spl_miss hp, par_miss hp]
      rcases spl_par hS r (acc ++ [c]) with ⟨a, b, h1, h2, h3, h4⟩ | ⟨h1, h2⟩
      · exact .inl ⟨a, b, h1, h2, by rw [List.length_cons]; omega, by rw [List.length_append] at h4; rw [List.length_cons]; simp at h4; omega⟩
      · exact .inr ⟨h1, by rw [h2]; simp⟩
theorem halves (x : Str) : (∃ a b, Txt.partition x ": " = (a, (": " : Str), b) ∧ Txt.split x ": " = a :: Txt.split b ": " ∧ (tl a).length ≤ (tl x).length ∧ (tl b).length ≤ (tl x).length) ∨ (Txt.partition x ": " = (x, ("" : Str), ("" : Str)) ∧ Txt.split x ": " = [x]) := by
  rw [partition_par x _ sepC.ne]
  rcases spl_par sepC.ne (tl x) [] with ⟨a, b, h1, h2, h3, h4⟩ | ⟨h1, h2⟩
  · refine .inl ⟨⟨a.toArray⟩, ⟨b.toArray⟩, by rw [h1], map_tl_inj ?_, by rw [tl_mk]; simpa using h4, by rw [tl_mk]; exact h3⟩
    rw [sepC.spl, h2, List.map_cons, sepC.spl, tl_mk, tl_mk]
  · refine .inr ⟨by rw [h1]; rfl, map_tl_inj ?_⟩
    rw [sepC.spl, h2]
    rfl
theorem one_half {b : Str} (h : 58 ∉ tl b) : Txt.split b ": " = [b] := by
  refine map_tl_inj ?_
  rw [sepC.spl, show tl (": " : Str) = 58 :: [32] by decide +kernel, spl_last1 h]
  rfl
/-- a row by its halves -/
def rowL (x : Str) : Option Gd := match Txt.split x ": " with
  | [a, b] => bothR (headR (Txt.split a " ")) (deedsR (Txt.split b "; "))
  | _ => none
theorem rowL_eq (x : Str) : rowL x = rowR x := by
  unfold rowL rowR
  rcases halves x with ⟨a, b, h1, h2, _⟩ | ⟨h1, h2⟩
  · rw [h1, h2]
    show _ = (if (": " : Str) = "" then none else bothR (headR (Txt.split a " ")) (deedsR (Txt.split b "; ")))
    rw [if_neg (by decide +kernel)]
    by_cases h : 58 ∈ tl b
    · have e : deedsR (Txt.split b "; ") = none := by
        cases z : deedsR (Txt.split b "; ") with
        | none => rfl
        | some ds => exact absurd h (deedsR_free z)
      rw [e, bothR_none]
      split
      · rename_i a' b' e2
        injection e2 with e3 e2
        have : b = b' := by
          have z := sepC.spl b
          rw [e2] at z
          rcases spl_par sepC.ne (tl b) [] with ⟨p, q, w1, w2, _⟩ | ⟨w1, w2⟩
          · rw [w2] at z
            injection z with _ z
            exact absurd z.symm (spl_ne _ _)
          · rw [w2] at z
            injection z with z
            exact (ext_tl (by simpa using z)).symm
        subst this
        rw [e]
        exact bothR_none _
      · rfl
    · rw [one_half h]
  · rw [h1, h2]
    show none = (if ("" : Str) = "" then none else _)
    rw [if_pos rfl]
end S02

set_option Elab.async false
set_option linter.all false
set_option maxRecDepth 100000
set_option maxHeartbeats 4000000
/-! ### numbers read, or refused -/
namespace S02
open PySem PySem.Spec PyProof.Rows L2 K5 SupX GenX TL
theorem small_log {i : Int} (h : -1000000 < i) (h2 : i < 1000000) : i.natAbs.log2 < 1920 := by
  by_cases z : i.natAbs = 0
  · rw [z]; decide
  · exact Nat.lt_of_lt_of_le ((Nat.log2_lt z).mpr (by omega : i.natAbs < 2 ^ 20)) (by decide)
theorem sm_row {n : Nat} (h : n < 100000) : Sm (n : Int) := by
  refine ⟨small_log (by omega) (by omega), ?_⟩
  have e : (tl (nS (n : Int))).length ≤ 5 := by rw [nS_nat]; exact numL_len (by decide) h
  rw [← len_tl] at e
  exact Nat.le_trans (show (toString (n : Int) : Str).length ≤ 5 from e) (by decide)
/-- a text is refused -/
def ErT (A : Ad) (E : XK) (H : Hp) (row : Nat) : Prop := ∀ d, H d = none → E (.ref (A.c 12)) (some d) (upd H d (.xd [("row", .int (row : Nat))]))
section
variable {P : Program} {w : World} {K : PySem.W.Frag} {mg : Str → Option Value} {base : Heap} {A : Ad} {B fR fI pR : Addr}
theorem sco_initR : Sco "row" (defScope s_BadText___init__) := ⟨rfl, rfl, rfl, by decide +kernel, by decide +kernel, by decide +kernel, by decide +kernel, by decide +kernel, by decide +kernel⟩
theorem ok_initR (T : Txt K mg A) (X : Ex P w K mg A B fR fI) (htop : (P.main.scope.names.lookup ("super" : Str)).isSome = false) : ∃ fd, FnOk P w K mg base CX0 1 fR fd [("self" : Str), "row"] (spI (A.c 12) "row") ∧ Binds K fd [("self" : Str), "row"] [] := by
  refine ok_init X.rinit X.rcls sco_initR ⟨_, rfl, rfl⟩ rfl (fun Y hN hS => ?_) (fun env => ⟨_, rfl⟩) htop (by decide) (by decide) (fun kV doc pm an cl cdv ct us hl => ?_)
  · refine ⟨fun pins s σ H Q I ⟨v, h1, h2, h3⟩ => ?_⟩
    refine (pe_joined (.cons pe_str (.cons (pe_fmt (pe_var (i := 1) (x := "row") (by rw [hN]; rfl) (by rw [hS]; exact .inl (by decide +kernel)))) (.cons pe_str .nil)))).run pins s σ H Q I ?_
    obtain ⟨h2, h4⟩ := h2
    refine ⟨_, rfl, (by decide +kernel), _, h1, .inr ⟨v, rfl, h2, _, rfl, ?_, _, rfl, ?_, h3 _⟩⟩
    · rw [str_len]
      have : (Str.empty ++ ("row " : Str)).length ≤ 100 := by decide +kernel
      exact sz _ (by omega)
    · rw [str_len, str_len]
      have : (Str.empty ++ ("row " : Str)).length ≤ 100 := by decide +kernel
      have : (" is no deal" : Str).length ≤ 100 := by decide +kernel
      exact sz _ (by omega)
  · match us, hl with
    | [_, _], _ => rfl
abbrev Nscread_number : List Str := ["text", "row", "sign"]
theorem scread_number : FnScope Nscread_number ["text", "row"] (defScope s_read_number) := ⟨rfl, rfl, rfl, by decide +kernel, rfl, by decide +kernel, by decide +kernel⟩
def spNumX (A : Ad) : Sp := fun vs H Q E => ∃ (x : Str) (row : Nat), vs = [.str x, .int (row : Nat)] ∧ row < 100000 ∧ (tl x).length ≤ 100000 ∧ (∀ n, numR x = some n → ∀ G, Kp No H G → Q (.int (n : Nat)) G) ∧ (numR x = none → ∀ G, Kp No H G → ErT A E G row)
theorem figs_iff {c : Nat} : c ∈ ("0123456789" : Str).cps.toList ↔ 48 ≤ c ∧ c ≤ 57 := by
  have e : ("0123456789" : Str).cps.toList = [48, 49, 50, 51, 52, 53, 54, 55, 56, 57] := by decide +kernel
  rw [e]
  simp only [List.mem_cons, List.not_mem_nil, or_false]
  omega
def figB (c : Nat) : Bool := decide (c ∈ ("0123456789" : Str).cps.toList)
theorem ok_num (T : Txt K mg A) (X : Ex P w K mg A B fR fI) (htop : (P.main.scope.names.lookup ("super" : Str)).isSome = false) : ∃ fd, FnOk P w K mg base (L2N.CX P w) 3 (A.d 28) fd ["text", "row"] (spNumX A) ∧ Binds K fd ["text", "row"] [] := by
  obtain ⟨fd, F⟩ := T.read_number.fn
  obtain ⟨fdB, GB, bB⟩ := ok_initR (P := P) (w := w) (base := base) T X htop
  obtain ⟨tF, FG⟩ := X.fig
  refine ⟨fd, okN F scread_number (fun vs H Q E h => ?_) (fun cdv Ar outer s0 H vs Q E hr h => ?_), F.binds fun _ _ _ _ _ _ us hl => match us, hl with | [_, _], _ => rfl⟩
  · obtain ⟨x, row, rfl, _⟩ := h
    rfl
  · obtain ⟨x, row, rfl, hrow, hsz, k, kE⟩ := h
    have hu := hu_of hr
    have tk : L2N.Takes (cxOf (L2N.CX P w) P w K mg base Nscread_number "read_number" (defScope s_read_number) (A.d 28) cdv Ar outer s0 H E) (fun cls d _ G => E cls d G) := L2N.takes_of rfl rfl rfl rfl
    refine ⟨_, (pss_cons (ps_if (PW.pt (pw_or (pt_not (pt_chain op_le op_le pe_int (pe_callB call_len_str (by rfl) T.len PySem.boot_len (pa_cons (pv 0) pa_nil)) (pe_glob (v := .int 4) rfl T.k_MOST_FIGURES.choose_spec ⟨_, rfl⟩))) (pw_or1 (pt_not (pt_val (pe_callB (cr_all rfl) (by rfl) T.all (by decide +kernel) (pa_cons (pe_lc (own := [("sign", 2)]) (g := (gName 2)) (te := tOp (fun x y H Q => ∃ (c : Nat) (z : Str), x = .str ⟨#[c]⟩ ∧ y = .str z ∧ Q (.bl (decide (c ∈ z.cps.toList))) H) (tVar 2) (tC (.str "0123456789"))) (by rfl) scread_number.nd (pi_str (pv 0)) (blkOk_by (N := Nscread_number) (sc := defScope s_read_number) (by decide +kernel)) (fun _ _ _ _ _ => pg_name (i := 2) scread_number.nd rfl (Or.inl rfl)) (fun _ _ _ _ _ => pts_nil) (fun _ _ _ _ _ => by exact (pe_cmpR op_in_sign (pv 2) (pe_glob (v := .str "0123456789") rfl FG ⟨_, rfl⟩) rfl))) pa_nil)))))))
        (pss_one (L2N.ps_raise rfl tk (pmk_sup X.rcls X.rinit GB bB (hr.mono (by first | decide | omega)) rfl T.c_BadText (pv 1))))
        pss_nil)
      (pss_cons (ps_if (PW.pt (pw_and (pt_cmpR op_eq (pe_ix ix_str (pv 0) pe_int (fun _ _ => rfl)) pe_str (nomark _)) (pw_and1 (pt_cmpR op_gt (pe_callB call_len_str (by rfl) T.len PySem.boot_len (pa_cons (pv 0) pa_nil)) pe_int (nomark _)))))
        (pss_one (L2N.ps_raise rfl tk (pmk_sup X.rcls X.rinit GB bB (hr.mono (by first | decide | omega)) rfl T.c_BadText (pv 1))))
        pss_nil)
      (pss_one (ps_ret (pe_callTy call_int_str (by rfl) T.int (by decide +kernel) (pa_cons (pv 0) pa_nil)))))), ?_⟩
    have hszs : x.length ≤ sizeLine := by rw [len_tl]; exact Nat.le_trans hsz (by decide)
    have raise : ∀ {o : Option V} (J : Hp), Kp No H J → numR x = none → tMkS (A.c 12) "row" (tVar 1) [some (.str x), some (.int (row : Nat)), o] J (fun cls d H' => E cls d H') := fun J kJ hn => ⟨_, rfl, row, rfl, sm_row hrow, fun d hd => kE hn J kJ d hd⟩
    refine ⟨_, rfl, x, rfl, hszs, _, _, rfl, rfl, _, rfl, ?_⟩
    by_cases h1 : 1 ≤ (tl x).length
    rotate_left
    · rw [show decide ((1 : Int) ≤ (x.length : Int)) = false from decide_eq_false (by rw [len_tl]; omega)]
      exact iteF ⟨_, rfl, iteT (raise _ (Kp.refl _ _) (numR_len fun z => h1 z.1))⟩
    rw [show decide ((1 : Int) ≤ (x.length : Int)) = true from decide_eq_true (by rw [len_tl]; omega)]
    refine iteT ⟨_, _, rfl, rfl, _, rfl, ?_⟩
    by_cases h4 : (tl x).length ≤ 4
    rotate_left
    · rw [show decide ((x.length : Int) ≤ 4) = false from decide_eq_false (by rw [len_tl]; omega)]
      refine iteT (raise _ (Kp.refl _ _) (numR_len fun z => h4 z.2))
    rw [show decide ((x.length : Int) ≤ 4) = true from decide_eq_true (by rw [len_tl]; omega)]
    refine iteF ⟨_, rfl, x, rfl, fun D nD => lc_its (fun i J => Kp (fun b => b = D) H J ∧ J D = some (.lst ((((tl x).take i).map figB).map V.bl))) ⟨Kp.new nD, upd_same⟩ ?_ ?_⟩
    · rintro i c' J hci ⟨kJ, eJ⟩
      have hi : i < x.cps.size := (Array.getElem?_eq_some_iff.mp hci).1
      have hci' : (tl x)[i]? = some c' := by
        show x.cps.toList[i]? = some c'
        rw [Array.getElem?_toList]
        exact hci
      refine ⟨rfl, _, rfl, c', "0123456789", rfl, rfl, _, eJ, szL (by rw [List.length_map, List.length_map, List.length_take]; omega), kJ.trans (show Kp (fun b => b = D) J _ from Kp.updL eJ rfl) fun b z => .inl z, ?_⟩
      rw [upd_same, take_snoc hci', List.map_append, List.map_append]
      rfl
    · rintro J ⟨kJ, eJ⟩
      have kH : Kp No H J := kp_fresh kJ fun b z => by rw [show b = D from z]; exact nD
      rw [show (tl x).take x.cps.size = tl x from List.take_of_length_le (by rw [← len_tl]; exact Nat.le_refl _)] at eJ
      refine ⟨D, _, rfl, SqL.of eJ, ?_⟩
      refine ⟨_, rfl, ?_⟩
      by_cases hf : ∀ c ∈ tl x, 48 ≤ c ∧ c ≤ 57
      rotate_left
      · have ea : (((tl x).map figB)).all id = false := by
          rw [Bool.eq_false_iff]
          intro z
          rw [List.all_eq_true] at z
          refine hf fun c hc => figs_iff.mp ?_
          exact of_decide_eq_true (z _ (List.mem_map.mpr ⟨c, hc, rfl⟩))
        rw [ea]
        exact iteT (raise _ kH (numR_odd hf))
      have ea : (((tl x).map figB)).all id = true := by
        rw [List.all_eq_true]
        intro z hz
        obtain ⟨c, hc, rfl⟩ := List.mem_map.mp hz
        exact decide_eq_true (figs_iff.mpr (hf c hc))
      rw [ea]
      obtain ⟨c, r0, hc⟩ : ∃ c r, tl x = c :: r := by
        cases h : tl x with
        | nil => rw [h] at h1; simp at h1
        | cons c r => exact ⟨c, r, rfl⟩
      have hat : atI x.cps.toList 0 = some c := atI_nat (j := 0) (show (tl x)[0]? = some c by rw [hc]; rfl)
      have fin : ¬ (c = 48 ∧ r0 ≠ []) → ∃ z n', [V.str x] = [V.str z] ∧ intText? z = some n' ∧ z.length ≤ 640 ∧ Q (.int n') J := fun hz => ⟨_, _, rfl, int_dgs hf (by rw [hc]; simp) h4, by rw [len_tl]; omega, k _ (numR_fig hc h4 hf hz) J kH⟩
      refine iteF ⟨_, rfl, x, 0, c, rfl, rfl, hszs, hat, rfl, _, rfl, ?_⟩
      by_cases hb : c = 48
      · rw [show decide (V.str ⟨#[c]⟩ = V.str "0") = true from by rw [hb]; decide +kernel]
        refine iteT ⟨_, rfl, x, rfl, hszs, _, _, rfl, rfl, _, rfl, ?_⟩
        by_cases h00 : r0 = []
        · rw [show decide ((1 : Int) < (x.length : Int)) = false from decide_eq_false (by rw [len_tl, hc, h00]; simp)]
          exact iteF ⟨_, rfl, fin fun z => z.2 h00⟩
        · have : 1 ≤ r0.length := List.length_pos_iff.mpr h00
          rw [show decide ((1 : Int) < (x.length : Int)) = true from decide_eq_true (by rw [len_tl, hc, List.length_cons]; omega)]
          exact iteT (raise _ kH (numR_zero (by rw [hc, hb]) h00))
      · rw [show decide (V.str ⟨#[c]⟩ = V.str "0") = false from decide_eq_false fun z => by
          injection z with z
          have e := congrArg tl z
          rw [show tl ("0" : Str) = [48] by decide +kernel] at e
          injection e with e
          exact hb e]
        exact iteF (iteF ⟨_, rfl, fin fun z => hb z.1⟩)
end
end S02

set_option Elab.async false
set_option linter.all false
set_option maxRecDepth 100000
set_option maxHeartbeats 4000000
/-! ### last parts read, or refused -/
namespace S02
open PySem PySem.Spec PyProof.Rows L2 K5 SupX GenX TL
def lastR (w x : Str) : Option V := if w = "if" then (worthR x).map oV else if w = "add" then (moreR x).map V.int else (numR x).map fun n => V.int (n : Nat)
theorem cut1 {x : Str} {c : Nat} {r : List Nat} (e : tl x = c :: r) : cutS x (some 1) none = ⟨r.toArray⟩ := by
  apply ext_tl
  show ((tl x).drop (HT.sIx x.length 0 (some 1))).take (HT.sIx x.length x.length none - HT.sIx x.length 0 (some 1)) = _
  have l : x.length = r.length + 1 := by rw [len_tl, e]; rfl
  have s1 : HT.sIx x.length 0 (some ((1 : Nat) : Int)) = min 1 x.length := HT.sIx_nat ..
  rw [show (some (1 : Int)) = some ((1 : Nat) : Int) from rfl, s1, HT.sIx_none, e, l, Nat.min_eq_left (by omega)]
  simp [tl_mk]
theorem starts_nil {x : Str} (e : tl x = []) : Txt.startswith x "-" = false := by
  have : x = "" := ext_tl (by rw [e]; rfl)
  rw [this]
  decide +kernel
theorem num_minus {x : Str} {r : List Nat} (e : tl x = 45 :: r) : numR x = none := numR_odd fun h => by
  have := h 45 (by rw [e]; exact List.mem_cons_self)
  omega
section
variable {P : Program} {w : World} {K : PySem.W.Frag} {mg : Str → Option Value} {base : Heap} {A : Ad} {B fR fI pR : Addr}
abbrev Nscread_last : List Str := ["word", "text", "row"]
theorem scread_last : FnScope Nscread_last ["word", "text", "row"] (defScope s_read_last) := ⟨rfl, rfl, rfl, by decide +kernel, rfl, by decide +kernel, by decide +kernel⟩
def spLastX (A : Ad) : Sp := fun vs H Q E => ∃ (wd x : Str) (row : Nat), vs = [.str wd, .str x, .int (row : Nat)] ∧ row < 100000 ∧ (tl x).length ≤ 100000 ∧ (∀ v, lastR wd x = some v → ∀ G, Kp No H G → Q v G) ∧ (lastR wd x = none → ∀ G, Kp No H G → ErT A E G row)
theorem ok_last (T : Txt K mg A) (X : Ex P w K mg A B fR fI) (htop : (P.main.scope.names.lookup ("super" : Str)).isSome = false) : ∃ fd, FnOk P w K mg base (L2N.CX P w) 4 (A.d 29) fd ["word", "text", "row"] (spLastX A) ∧ Binds K fd ["word", "text", "row"] [] := by
  obtain ⟨fd, F⟩ := T.read_last.fn
  obtain ⟨fd1, Gread_number, bread_number⟩ := ok_num (P := P) (w := w) (base := base) T X htop
  refine ⟨fd, okN F scread_last (fun vs H Q E h => ?_) (fun cdv Ar outer s0 H vs Q E hr h => ?_), F.binds fun _ _ _ _ _ _ us hl => match us, hl with | [_, _, _], _ => rfl⟩
  · obtain ⟨wd, x, row, rfl, _⟩ := h
    rfl
  · obtain ⟨wd, x, row, rfl, hrow, hsz, k, kE⟩ := h
    have hu := hu_of hr
    have tk : L2N.Takes (cxOf (L2N.CX P w) P w K mg base Nscread_last "read_last" (defScope s_read_last) (A.d 29) cdv Ar outer s0 H E) (fun cls d _ G => E cls d G) := L2N.takes_of rfl rfl rfl rfl
    refine ⟨_, (pss_cons (ps_if (PW.pt (pw_and (pt_cmpR op_eq (pv 0) pe_str (nomark _)) (pw_and1 (pt_cmpR op_eq (pv 1) pe_str (nomark _)))))
        (pss_one (ps_ret pe_non))
        pss_nil)
      (pss_cons (ps_if (PW.pt (pw_and (pt_cmpR op_eq (pv 0) pe_str (nomark _)) (pw_and (pt_val (pe_m1 PySem.F.slot_str_startswith rfl mt_startswith (pv 1) pe_str)) (pw_and1 (pt_cmpR op_ne (pv 1) pe_str (nomark _))))))
        (pss_one (ps_ret (pe_un un_neg (pe_call (E := E) Gread_number (hr.mono (by first | decide | omega)) rfl T.read_number.at_ T.read_number.kp bread_number .nil (L2N.passes_call tk fun _ _ _ _ h => h) (pa_cons (pe_slice sl_str (pv 1) (po_some pe_int) po_none) (pa_cons (pv 2) pa_nil))))))
        pss_nil)
      (pss_one (ps_ret (pe_call (E := E) Gread_number (hr.mono (by first | decide | omega)) rfl T.read_number.at_ T.read_number.kp bread_number .nil (L2N.passes_call tk fun _ _ _ _ h => h) (pa_cons (pv 1) (pa_cons (pv 2) pa_nil))))))), ?_⟩
    have hszs : x.length ≤ sizeLine := by rw [len_tl]; exact Nat.le_trans hsz (by decide)
    have ne : ∀ {a b : Str}, a ≠ b → decide (V.str a = V.str b) = false := fun h => decide_eq_false fun z => by injection z with z; exact h z
    have eq : ∀ {a b : Str}, a = b → decide (V.str a = V.str b) = true := fun h => decide_eq_true (by rw [h])
    -- a number
    have num : (lastR wd x = (numR x).map fun n => V.int (n : Nat)) → spNumX A [.str x, .int (row : Nat)] H Q E := fun e => ⟨x, row, rfl, hrow, hsz, fun n hn G kG => k _ (by rw [e, hn]; rfl) G kG, fun hn G kG => kE (by rw [e, hn]; rfl) G kG⟩
    refine ⟨_, rfl, rfl, _, rfl, ?_⟩
    by_cases hI : wd = "if"
    · rw [eq hI]
      have eA : decide (V.str wd = V.str "add") = false := ne (by rw [hI]; decide +kernel)
      refine iteT ⟨_, rfl, rfl, _, rfl, ?_⟩
      by_cases hx : x = "-"
      · rw [eq hx]
        exact iteT (k _ (by unfold lastR worthR; rw [if_pos hI, if_pos hx]; rfl) H (Kp.refl _ _))
      · rw [ne hx]
        refine iteF ⟨_, rfl, rfl, _, rfl, ?_⟩
        rw [eA]
        exact iteF ⟨_, rfl, _, rfl, num (by
          unfold lastR worthR
          rw [if_pos hI, if_neg hx]
          cases numR x <;> rfl)⟩
    · rw [ne hI]
      refine iteF ⟨_, rfl, rfl, _, rfl, ?_⟩
      by_cases hA : wd = "add"
      rotate_left
      · rw [ne hA]
        exact iteF ⟨_, rfl, _, rfl, num (by unfold lastR; rw [if_neg hI, if_neg hA])⟩
      rw [eq hA]
      have lr : lastR wd x = (moreR x).map V.int := by unfold lastR; rw [if_neg hI, if_pos hA]
      refine iteT ⟨_, rfl, ⟨_, rfl⟩, x, "-", rfl, rfl, _, rfl, ?_⟩
      have plain : (∀ r, tl x ≠ 45 :: r) → lastR wd x = (numR x).map fun n => V.int (n : Nat) := fun h => by
        rw [lr]
        unfold moreR
        split
        · rename_i r e; exact absurd e (h r)
        · cases numR x <;> rfl
      cases e : tl x with
      | nil =>
        rw [starts_nil e]
        exact iteF ⟨_, rfl, _, rfl, num (plain fun r z => by rw [e] at z; cases z)⟩
      | cons c r =>
        rw [starts_of e]
        by_cases hc : c = 45
        rotate_left
        · rw [decide_eq_false hc]
          exact iteF ⟨_, rfl, _, rfl, num (plain fun r z => by rw [e] at z; injection z with z _; exact hc z)⟩
        rw [decide_eq_true hc]
        rw [hc] at e
        refine iteT ⟨_, rfl, rfl, _, rfl, ?_⟩
        have mr : moreR x = (match numR ⟨r.toArray⟩ with
          | some n => if 0 < n then some (-(n : Int)) else none
          | none => none) := by
          unfold moreR
          split
          · rename_i r' e'
            rw [e] at e'
            injection e' with _ e'
            subst e'
            cases numR ⟨r.toArray⟩ <;> rfl
          · rename_i h; exact absurd e (h r)
        by_cases h0 : x = "-0"
        · rw [show (!decide (V.str x = V.str "-0")) = false from by rw [eq h0]; rfl]
          have m0 : lastR wd x = none := by
            rw [lr, h0]
            decide +kernel
          exact iteF ⟨_, rfl, _, rfl, num (by rw [m0, num_minus e]; rfl)⟩
        · rw [show (!decide (V.str x = V.str "-0")) = true from by rw [ne h0]; rfl]
          refine iteT ⟨_, rfl, _, rfl, x, rfl, hszs, _, rfl, ⟨r.toArray⟩, row, ?_, hrow, by rw [tl_mk]; rw [e, List.length_cons] at hsz; omega, fun n hn G kG => ⟨_, rfl, ?_⟩, fun hn G kG => kE (by rw [lr, mr, hn]; rfl) G kG⟩
          · rw [cut1 e]; rfl
          · refine k _ ?_ G kG
            rw [lr, mr, hn]
            have : 0 < n := by
              cases n with
              | zero =>
                obtain ⟨er, _, _⟩ := numR_some hn
                exact absurd (ext_tl (by rw [e, show tl ("-0" : Str) = 45 :: tl (nS ((0 : Nat) : Int)) by decide +kernel, ← er])) h0
              | succ n => omega
            show Option.map V.int (if 0 < n then some (-(n : Int)) else none) = _
            rw [if_pos this]
            rfl
end
end S02

set_option Elab.async false
set_option linter.all false
set_option maxRecDepth 100000
set_option maxHeartbeats 4000000
/-! ### deeds read, or refused -/
namespace S02
open PySem PySem.Spec PyProof.Rows L2 K5 SupX GenX TL
abbrev NumP : Str → Nat → Prop := fun p n => numR p = some n
def arity (w : Str) : Nat := if w = "put" then 3 else if w = "drop" then 1 else 2
theorem words4 (d : Dd) : d.word = "put" ∨ d.word = "drop" ∨ d.word = "add" ∨ d.word = "if" := by
  cases d with
  | put _ _ _ => exact .inl rfl
  | drop _ => exact .inr (.inl rfl)
  | add _ _ => exact .inr (.inr (.inl rfl))
  | iff _ _ => exact .inr (.inr (.inr rfl))
theorem ar_put : arity "put" = 3 := by decide +kernel
theorem ar_drop : arity "drop" = 1 := by decide +kernel
theorem ar_add : arity "add" = 2 := by decide +kernel
theorem ar_if : arity "if" = 2 := by decide +kernel
theorem ar_le (w : Str) : 1 ≤ arity w ∧ arity w ≤ 3 := by
  unfold arity
  split
  · omega
  · split <;> omega
theorem proto {w : Str} (h : ∃ d : Dd, d.word = w) : ∃ d : Dd, d.word = w ∧ (bnds d).length = arity w := by
  obtain ⟨d, rfl⟩ := h
  cases d with
  | put a b c => exact ⟨.put a b c, rfl, ar_put.symm⟩
  | drop a => exact ⟨.drop a, rfl, ar_drop.symm⟩
  | add a b => exact ⟨.add a b, rfl, ar_add.symm⟩
  | iff a b => exact ⟨.iff a b, rfl, ar_if.symm⟩
theorem dput {a b c : Str} : deedW ["put", a, b, c] = (match numR a, numR b, numR c with
      | some k, some m, some l => some (.put k m l)
      | _, _, _ => none) := by unfold deedW; exact if_pos rfl
theorem ddrop {a : Str} : deedW ["drop", a] = (numR a).map fun (k : Nat) => Dd.drop (k : Int) := by unfold deedW; exact if_pos rfl
theorem dadd {a b : Str} : deedW ["add", a, b] = (match numR a, moreR b with
      | some k, some m => some (.add k m)
      | _, _ => none) := by unfold deedW; exact if_pos rfl
theorem dif {a b : Str} : deedW ["if", a, b] = (match numR a, worthR b with
      | some k, some m => some (.iff k m)
      | _, _ => none) := by unfold deedW; exact (if_neg (by decide +kernel)).trans (if_pos rfl)
/-- what is read has one of the four words, and as many parts as it wants -/
theorem deedW_word {w : Str} {ps : List Str} {d : Dd} (h : deedW (w :: ps) = some d) : (∃ d : Dd, d.word = w) ∧ ps.length = arity w := by
  unfold deedW at h
  split at h
  · rename_i w' a e
    injection e with e1 e2
    subst e1 e2
    split at h
    · rename_i e; subst e; exact ⟨⟨.drop 0, rfl⟩, ar_drop.symm⟩
    · cases h
  · rename_i w' a b e
    injection e with e1 e2
    subst e1 e2
    split at h
    · rename_i e; subst e; exact ⟨⟨.add 0 0, rfl⟩, ar_add.symm⟩
    · split at h
      · rename_i e; subst e; exact ⟨⟨.iff 0 none, rfl⟩, ar_if.symm⟩
      · cases h
  · rename_i w' a b c e
    injection e with e1 e2
    subst e1 e2
    split at h
    · rename_i e; subst e; exact ⟨⟨.put 0 0 0, rfl⟩, ar_put.symm⟩
    · cases h
  · cases h
theorem lastR_put (q : Str) : lastR "put" q = (numR q).map fun n => V.int (n : Nat) := (if_neg (by decide +kernel)).trans (if_neg (by decide +kernel))
theorem lastR_drop (q : Str) : lastR "drop" q = (numR q).map fun n => V.int (n : Nat) := (if_neg (by decide +kernel)).trans (if_neg (by decide +kernel))
theorem lastR_add (q : Str) : lastR "add" q = (moreR q).map V.int := (if_neg (by decide +kernel)).trans (if_pos rfl)
theorem lastR_if (q : Str) : lastR "if" q = (worthR q).map oV := if_pos rfl
theorem deedW_parts {w q : Str} {ps : List Str} (hw : ∃ d : Dd, d.word = w) (hl : ps.length + 1 = arity w) :
    (∀ (ns : List Nat) (v : V), Paired NumP ps ns → lastR w q = some v → ∃ d, deedW (w :: (ps ++ [q])) = some d ∧ d.vs = .str w :: (ns.map (fun n => V.int (n : Nat)) ++ [v])) ∧ (∀ p ∈ ps, numR p = none → deedW (w :: (ps ++ [q])) = none) ∧ (lastR w q = none → deedW (w :: (ps ++ [q])) = none) := by
  obtain ⟨d0, rfl⟩ := hw
  rcases words4 d0 with e | e | e | e <;> rw [e] at hl ⊢
  · rw [ar_put] at hl
    match ps, hl with
    | [a, b], _ =>
      show _ ∧ _ ∧ _
      rw [lastR_put]
      show (∀ ns v, _ → _ → ∃ d, deedW ["put", a, b, q] = some d ∧ _) ∧ (∀ p ∈ [a, b], numR p = none → deedW ["put", a, b, q] = none) ∧ (_ → deedW ["put", a, b, q] = none)
      rw [dput]
      refine ⟨fun ns v hp hv => ?_, fun p hp hn => ?_, fun hn => ?_⟩
      · cases hp with
        | cons h1 hp =>
          cases hp with
          | cons h2 hp =>
            cases hp
            rw [h1, h2]
            cases hq : numR q with
            | none => rw [hq] at hv; cases hv
            | some n => rw [hq] at hv; cases hv; exact ⟨_, rfl, rfl⟩
      · simp only [List.mem_cons, List.not_mem_nil, or_false] at hp
        rcases hp with rfl | rfl
        · rw [hn]
        · rw [hn]; cases numR a <;> rfl
      · cases hq : numR q with
        | none => cases numR a <;> cases numR b <;> rfl
        | some n => rw [hq] at hn; cases hn
  · rw [ar_drop] at hl
    match ps, hl with
    | [], _ =>
      rw [lastR_drop]
      show (∀ ns v, _ → _ → ∃ d, deedW ["drop", q] = some d ∧ _) ∧ (∀ p ∈ ([] : List Str), numR p = none → deedW ["drop", q] = none) ∧ (_ → deedW ["drop", q] = none)
      rw [ddrop]
      refine ⟨fun ns v hp hv => ?_, fun p hp hn => (by cases hp), fun hn => ?_⟩
      · cases hp
        cases hq : numR q with
        | none => rw [hq] at hv; cases hv
        | some n => rw [hq] at hv; cases hv; exact ⟨_, rfl, rfl⟩
      · cases hq : numR q with
        | none => rfl
        | some n => rw [hq] at hn; cases hn
  · rw [ar_add] at hl
    match ps, hl with
    | [a], _ =>
      rw [lastR_add]
      show (∀ ns v, _ → _ → ∃ d, deedW ["add", a, q] = some d ∧ _) ∧ (∀ p ∈ [a], numR p = none → deedW ["add", a, q] = none) ∧ (_ → deedW ["add", a, q] = none)
      rw [dadd]
      refine ⟨fun ns v hp hv => ?_, fun p hp hn => ?_, fun hn => ?_⟩
      · cases hp with
        | cons h1 hp =>
          cases hp
          rw [h1]
          cases hq : moreR q with
          | none => rw [hq] at hv; cases hv
          | some n => rw [hq] at hv; cases hv; exact ⟨_, rfl, rfl⟩
      · rw [List.mem_singleton] at hp
        subst hp
        rw [hn]
      · cases hq : moreR q with
        | none => cases numR a <;> rfl
        | some n => rw [hq] at hn; cases hn
  · rw [ar_if] at hl
    match ps, hl with
    | [a], _ =>
      rw [lastR_if]
      show (∀ ns v, _ → _ → ∃ d, deedW ["if", a, q] = some d ∧ _) ∧ (∀ p ∈ [a], numR p = none → deedW ["if", a, q] = none) ∧ (_ → deedW ["if", a, q] = none)
      rw [dif]
      refine ⟨fun ns v hp hv => ?_, fun p hp hn => ?_, fun hn => ?_⟩
      · cases hp with
        | cons h1 hp =>
          cases hp
          rw [h1]
          cases hq : worthR q with
          | none => rw [hq] at hv; cases hv
          | some n => rw [hq] at hv; cases hv; exact ⟨_, rfl, rfl⟩
      · rw [List.mem_singleton] at hp
        subst hp
        rw [hn]
      · cases hq : worthR q with
        | none => cases numR a <;> rfl
        | some n => rw [hq] at hn; cases hn
section
variable {P : Program} {w : World} {K : PySem.W.Frag} {mg : Str → Option Value} {base : Heap} {A : Ad} {B fR fI pR : Addr}
abbrev Nscread_deed : List Str := ["text", "row", "word", "parts", "numbers", "part"]
theorem scread_deed : FnScope Nscread_deed ["text", "row"] (defScope s_read_deed) := ⟨rfl, rfl, rfl, by decide +kernel, rfl, by decide +kernel, by decide +kernel⟩
def spDeedX (A : Ad) : Sp := fun vs H Q E => ∃ (x : Str) (row : Nat), vs = [.str x, .int (row : Nat)] ∧ row < 100000 ∧ (tl x).length ≤ 50000 ∧ (∀ d, deedR x = some d → ∀ G a, Kp No H G → G a = some (.tup d.vs) → Q (.ref a) G) ∧ (deedR x = none → ∀ G, Kp No H G → ErT A E G row)
theorem ok_deedX (T : Txt K mg A) (X : Ex P w K mg A B fR fI) (htop : (P.main.scope.names.lookup ("super" : Str)).isSome = false) : ∃ fd, FnOk P w K mg base (L2N.CX P w) 5 (A.d 30) fd ["text", "row"] (spDeedX A) ∧ Binds K fd ["text", "row"] [] := by
  obtain ⟨fd, F⟩ := T.read_deed.fn
  obtain ⟨fd1, Gread_number, bread_number⟩ := ok_num (P := P) (w := w) (base := base) T X htop
  obtain ⟨fd2, Gread_last, bread_last⟩ := ok_last (P := P) (w := w) (base := base) T X htop
  obtain ⟨fdB, GB, bB⟩ := ok_initR (P := P) (w := w) (base := base) T X htop
  obtain ⟨es, n, hB⟩ := X.bd
  refine ⟨fd, okN F scread_deed (fun vs H Q E h => ?_) (fun cdv Ar outer s0 H vs Q E hr h => ?_), F.binds fun _ _ _ _ _ _ us hl => match us, hl with | [_, _], _ => rfl⟩
  · obtain ⟨x, row, rfl, _⟩ := h
    rfl
  · obtain ⟨x, row, rfl, hrow, hsz, k, kE⟩ := h
    have hu := hu_of hr
    have tk : L2N.Takes (cxOf (L2N.CX P w) P w K mg base Nscread_deed "read_deed" (defScope s_read_deed) (A.d 30) cdv Ar outer s0 H E) (fun cls d _ G => E cls d G) := L2N.takes_of rfl rfl rfl rfl
    refine ⟨_, (pss_cons (ps_asg (pe_split (pv 0) pe_str) (pg_starL (n := 1) rfl (pgs_cons (pg_name (i := 2) scread_deed.nd rfl (Or.inl rfl)) (pgs_star (pg_name (i := 3) scread_deed.nd rfl (Or.inl rfl))))))
      (pss_cons (ps_if (PW.pt (pw_or (pt_cmpR (op_notIn_kd hB) (pv 2) (pe_glob (v := .ref B) rfl X.bounds rfl) rfl) (pw_or1 (pt_cmpR op_ne (pe_callB call_len_seq (by rfl) T.len PySem.boot_len (pa_cons (pv 3) pa_nil)) (pe_callB call_len_seq (by rfl) T.len PySem.boot_len (pa_cons (pe_ix ix_kdict (pe_glob (v := .ref B) rfl X.bounds rfl) (pv 2) (fun _ _ => rfl)) pa_nil)) (nomark _)))))
        (pss_one (L2N.ps_raise rfl tk (pmk_sup X.rcls X.rinit GB bB (hr.mono (by first | decide | omega)) rfl T.c_BadText (pv 1))))
        pss_nil)
      (pss_cons (L2N.ps_setLcR (i := 4) (own := [("part", 5)]) (g := (gName 5)) rfl rfl tk (by rfl) scread_deed.nd rfl rfl (sw_true rfl rfl rfl (by decide +kernel)) (pi_list (pe_slice sl_list (pv 3) po_none (po_some (pe_un un_neg pe_int)))) (blkOk_by (N := Nscread_deed) (sc := defScope s_read_deed) (by decide +kernel)) (fun _ _ _ _ _ _ => pg_name (i := 5) scread_deed.nd rfl (Or.inl rfl)) (fun _ _ _ _ _ _ => pts_nil) (fun _ _ _ _ _ _ tkb => by exact (pe_call (E := E) Gread_number (hr.mono (by first | decide | omega)) rfl T.read_number.at_ T.read_number.kp bread_number .nil (L2N.passes_call tkb fun _ _ _ _ h => h) (pa_cons (pv 5) (pa_cons (pv 1) pa_nil)))))
      (pss_one (ps_ret (pe_tup (pa_cons (pv 2) (StX.pa_star (pv 4) (pa_cons (pe_call (E := E) Gread_last (hr.mono (by first | decide | omega)) rfl T.read_last.at_ T.read_last.kp bread_last .nil (L2N.passes_call tk fun _ _ _ _ h => h) (pa_cons (pv 2) (pa_cons (pe_ix ix_list (pv 3) (pe_un un_neg pe_int) (fun _ _ => rfl)) (pa_cons (pv 1) pa_nil)))) pa_nil))))))))), ?_⟩
    have ps : ∀ {p : Str}, p ∈ Txt.split x " " → (tl p).length ≤ (tl x).length := fun {p} hp => sepS.pcs hp
    have ns := sepS.some x
    have ln := sepS.len x
    have dR : deedR x = deedW (Txt.split x " ") := rfl
    refine ⟨_, rfl, ⟨_, rfl⟩, x, " ", rfl, rfl, by decide +kernel, by rw [len_tl]; exact Nat.le_trans (Nat.add_le_add_right hsz 2) (by decide), ?_⟩
    rw [dR] at k kE
    generalize Txt.split x " " = ws at k kE ps ns ln ⊢
    obtain ⟨wd, rest, rfl⟩ : ∃ w r, ws = w :: r := by
      cases ws with
      | nil => exact absurd rfl ns
      | cons w r => exact ⟨w, r, rfl⟩
    refine fun p np => ?_
    have kp : Kp No H (upd H p (.lst ((wd :: rest).map V.str))) := Kp.new np
    have ep : upd H p (.lst ((wd :: rest).map V.str)) p = some (.lst ((wd :: rest).map V.str)) := upd_same
    generalize upd H p (.lst ((wd :: rest).map V.str)) = H1 at kp ep ⊢
    have lr : rest.length ≤ 50000 := by rw [List.length_cons] at ln; omega
    refine ⟨p, _, rfl, SqL.of ep, by simp, by rw [List.length_map, List.length_cons]; omega, fun L nL => ?_⟩
    have kL : Kp No H1 (upd H1 L (.lst (((wd :: rest).map V.str).drop 1))) := Kp.new nL
    have eL : upd H1 L (.lst (((wd :: rest).map V.str).drop 1)) L = some (.lst (rest.map V.str)) := upd_same
    generalize upd H1 L (.lst (((wd :: rest).map V.str).drop 1)) = H2 at kL eL ⊢
    have k2 : Kp No H H2 := kp.trans kL fun _ z => False.elim z
    refine ⟨_, _, rfl, _, _, rfl, rfl, ?_⟩
    have raise : ∀ {o2 o3 o4 o5 : Option V} (J : Hp), Kp No H J → deedW (wd :: rest) = none → tMkS (A.c 12) "row" (tVar 1) [some (.str x), some (.int (row : Nat)), o2, o3, o4, o5] J (fun cls d H' => E cls d H') := fun J kJ hn => ⟨_, rfl, row, rfl, sm_row hrow, fun d hd => kE hn J kJ d hd⟩
    by_cases hw : ∃ d : Dd, d.word = wd
    rotate_left
    · have hb := X.bno wd fun d e => hw ⟨d, e⟩
      have hn : deedW (wd :: rest) = none := by
        cases e : deedW (wd :: rest) with
        | none => rfl
        | some d => exact absurd (deedW_word e).1 hw
      exact ⟨_, rfl, wd, _, rfl, rfl, hb, _, rfl, iteT (raise _ k2 hn)⟩
    obtain ⟨d0, hd0, had⟩ := proto hw
    obtain ⟨b, hb, as, wb, pb⟩ := X.bn d0
    rw [hd0] at hb
    have kd : KDct K w B wd (.ref b) := ⟨es, n, _, hB.at_, hB.lit, hb, rfl⟩
    refine ⟨_, rfl, wd, _, rfl, rfl, hb, _, rfl, iteF ?_⟩
    refine ⟨_, rfl, L, _, rfl, .inl (SqL.of eL), _, rfl, B, wd, .ref b, rfl, rfl, kd, b, _, rfl, .inr (wb.sq _), rfl, _, rfl, ?_⟩
    have e1 : (decide (V.int (((rest.map V.str).length : Nat) : Int) = V.int ((as.map V.ref).length : Nat))) = decide (rest.length = arity wd) := by
      rw [List.length_map, List.length_map, pb.length, had]
      by_cases z : rest.length = arity wd
      · rw [decide_eq_true z, z]; simp
      · rw [decide_eq_false z]
        exact decide_eq_false fun q => by injection q with q; omega
    rw [e1]
    by_cases hl : rest.length = arity wd
    rotate_left
    · rw [decide_eq_false hl]
      have hn : deedW (wd :: rest) = none := by
        cases e : deedW (wd :: rest) with
        | none => rfl
        | some d => exact absurd (deedW_word e).2 hl
      exact iteT (raise _ k2 hn)
    rw [decide_eq_true hl]
    refine iteF ?_
    have a1 := (ar_le wd).1
    obtain ⟨qs, q, rfl⟩ : ∃ qs q, rest = qs ++ [q] := by
      rcases List.eq_nil_or_concat rest with z | ⟨qs, q, z⟩
      · rw [z] at hl; simp at hl; omega
      · exact ⟨qs, q, by rw [z, List.concat_eq_append]⟩
    have hl' : qs.length + 1 = arity wd := by simpa using hl
    have l3 : qs.length ≤ 2 := by
      have := (ar_le wd).2
      omega
    obtain ⟨D1, D2, D3⟩ := deedW_parts (q := q) hw hl'
    have pl : ∀ y ∈ qs ++ [q], (tl y).length ≤ 100000 := fun y hy => by have := ps (p := y) (List.mem_cons_of_mem _ hy); omega
    have eL : H2 L = some (.lst (qs.map V.str ++ [V.str q])) := by rw [List.map_append] at eL; exact eL
    refine ⟨_, rfl, 1, rfl, _, rfl, L, _, rfl, SqL.of eL, fun c nc => ?_⟩
    rw [cut_last]
    have kq : Kp No H2 (upd H2 c (.lst (qs.map V.str))) := Kp.new nc
    have eq : upd H2 c (.lst (qs.map V.str)) c = some (.lst (qs.map V.str)) := upd_same
    have eLq := kq.t.lst eL fun z => z
    generalize upd H2 c (.lst (qs.map V.str)) = H3 at kq eq eLq ⊢
    have k3 : Kp No H H3 := k2.trans kq fun _ z => False.elim z
    refine ⟨c, rfl, ⟨_, SqL.of eq⟩, fun D nD => ?_⟩
    have nqD : c ≠ D := fun z => by rw [z, nD] at eq; cases eq
    have nLD : L ≠ D := fun z => by rw [z, nD] at eLq; cases eLq
    have back : ∀ {J : Hp}, Kp (fun b => b = D) H3 J → Kp No H J := fun kJ => k3.trans (kp_fresh kJ fun b z => by rw [show b = D from z]; exact nD) fun _ z => False.elim z
    refine lc_list (K := K) (a := c) (xs := qs.map V.str) (fun i J => Kp (fun b => b = D) H3 J ∧ ∃ ns : List Nat, Paired NumP (qs.take i) ns ∧ J D = some (.lst (ns.map fun n => V.int (n : Nat)))) ⟨Kp.new nD, [], .nil, upd_same⟩ (fun i J _ ⟨kJ, _⟩ => SqL.of (kJ.t.lst eq nqD)) ?_ ?_
    · rintro i y J hy ⟨kJ, ns, pn, eJ⟩
      rw [List.getElem?_map] at hy
      obtain ⟨m, hm, rfl⟩ : ∃ m, qs[i]? = some m ∧ V.str m = y := by
        cases e : qs[i]? with
        | none => rw [e] at hy; cases hy
        | some m => rw [e] at hy; exact ⟨m, rfl, Option.some.inj hy⟩
      have hi := (List.getElem?_eq_some_iff.mp hm).1
      have mm : m ∈ qs := List.mem_of_getElem? hm
      refine ⟨rfl, _, rfl, _, rfl, m, row, rfl, hrow, pl m (List.mem_append_left _ mm), fun n hn G kG => ?_, fun hn G kG => kE (D2 m mm hn) G ((back kJ).trans kG fun _ z => False.elim z)⟩
      have eG := kG.t.lst eJ fun z => z
      have ln2 := pn.length
      rw [List.length_take] at ln2
      refine ⟨_, eG, szL (by rw [List.length_map]; omega), (kJ.trans kG fun _ z => False.elim z).trans (show Kp (fun b => b = D) G _ from Kp.updL eG rfl) fun b z => .inl z, ns ++ [n], ?_, ?_⟩
      · rw [take_snoc hm]
        exact pn.snoc hn
      · rw [upd_same, List.map_append]
        rfl
    · rintro J ⟨kJ, ns, pn, eJ⟩
      rw [List.length_map, List.take_length] at pn
      have kHJ := back kJ
      have eLJ := kJ.t.lst eLq nLD
      refine ⟨_, rfl, _, rfl, D, _, rfl, .inr (SqL.of eJ), _, rfl, _, rfl, 1, rfl, L, _, -1, _, rfl, rfl, SqL.of eLJ, atI_last _ _, _, rfl, wd, q, row, rfl, hrow, pl q (by simp), fun v hv G kG => ⟨szL (by rw [List.length_append, List.length_map, ← pn.length]; simp; omega), fun a na => ?_⟩, fun hn G kG => kE (D3 hn) G (kHJ.trans kG fun _ z => False.elim z)⟩
      obtain ⟨d, hd, hv2⟩ := D1 ns v pn hv
      refine k d hd _ a ((kHJ.trans kG fun _ z => False.elim z).trans (Kp.new (F := No) na) fun _ z => False.elim z) ?_
      rw [upd_same, hv2]
end
end S02

set_option Elab.async false
set_option linter.all false
set_option maxRecDepth 100000
set_option maxHeartbeats 4000000
/-! ### frames with tables that grow; a table of the program -/
namespace S02
open PySem PySem.Spec PyProof.Rows L2 K5 SupX GenX
def TbA (H : Hp) (P : Addr) : Prop := ∃ ps : Array Value, H P = some (.tbl ps) ∧ TriplesOk ps.toList
/-- all stays but what may change and lies in F; the tables in L are tables still -/
structure Kg (L : List Addr) (F : Addr → Prop) (H G : Hp) : Prop where
  st : ∀ b o, H b = some o → (Mu o → ¬ F b) → (b ∈ L ∧ (∃ ps, o = .tbl ps) ∧ ∃ qs, G b = some (.tbl qs)) ∨ G b = some o
  tb : ∀ P ∈ L, TbA H P → TbA G P
section
variable {L : List Addr} {F F' : Addr → Prop} {H G I : Hp}
theorem Kg.of (k : Kp F H G) : Kg L F H G := ⟨fun b o e n => .inr (k b o e n), fun P _ ⟨ps, e, t⟩ => ⟨ps, k _ _ e (fun m => nomatch m), t⟩⟩
theorem Kg.t (k : Kg L F H G) : Kt F H G := fun b o e t n => (k.st b o e n).elim (fun ⟨_, ⟨ps, z⟩, _⟩ => absurd z (t ps)) id
theorem Kg.trans (k : Kg L F H G) (l : Kg L F' G I) (s : ∀ b, F' b → F b ∨ H b = none) : Kg L F H I := by
  refine ⟨fun b o e n => ?_, fun P m t => l.tb P m (k.tb P m t)⟩
  rcases k.st b o e n with ⟨h1, h2, qs, h3⟩ | h
  · rcases l.st b _ h3 (fun m => nomatch m) with ⟨_, _, rs, h4⟩ | h4
    · exact .inl ⟨h1, h2, rs, h4⟩
    · exact .inl ⟨h1, h2, qs, h4⟩
  · exact l.st b o h fun m z => (s b z).elim (n m) fun q => by rw [q] at e; cases e
theorem Kg.sub (k : Kg L F H G) (s : ∀ b, F b → F' b) : Kg L F' H G := ⟨fun b o e n => k.st b o e fun m z => n m (s b z), k.tb⟩
theorem Kg.free {a : Addr} (k : Kg L F H G) (h : G a = none) (n : F a → H a = none) : H a = none := by
  by_cases f : F a
  · exact n f
  · cases e : H a with
    | none => rfl
    | some o =>
      rcases k.st a o e fun _ => f with ⟨_, _, qs, z⟩ | z
      · rw [h] at z; cases z
      · rw [h] at z; cases z
theorem Kg.fresh (k : Kg L F H G) (n : ∀ b, F b → H b = none) : Kg L F' H G := ⟨(fun b o e _ => k.st b o e fun _ z => by rw [n b z] at e; cases e), k.tb⟩
theorem Kg.refl (L : List Addr) (F : Addr → Prop) (H : Hp) : Kg L F H H := Kg.of (Kp.refl F H)
theorem Kg.tab {P : Addr} {ps qs : Array Value} (m : P ∈ L) (h : H P = some (.tbl ps)) (t : TriplesOk qs.toList) : Kg L F H (upd H P (.tbl qs)) := by
  refine ⟨fun b o e n => ?_, fun Q _ ⟨rs, e, t2⟩ => ?_⟩
  · by_cases z : b = P
    · subst z
      rw [h] at e
      cases e
      exact .inl ⟨m, ⟨ps, rfl⟩, qs, upd_same⟩
    · exact .inr ((upd_ne z).trans e)
  · by_cases z : Q = P
    · subst z
      exact ⟨qs, upd_same, t⟩
    · exact ⟨rs, (upd_ne z).trans e, t2⟩
def Tg (L : List Addr) (H : Hp) : Prop := ∀ P ∈ L, TbA H P
theorem Tg.kg (t : Tg L H) (k : Kg L F H G) : Tg L G := fun P m => k.tb P m (t P m)
theorem Tg.kp (t : Tg L H) (k : Kp F H G) : Tg L G := t.kg (Kg.of k)
end
/-! hands -/
abbrev Hn := Int → Option (Int × Int × Bool)
def Hn.set (f : Hn) (h : Int) (x : Int × Int × Bool) : Hn := fun j => if j = h then some x else f j
def HnV (H : Hp) (kvs : List (Key × V)) (f : Hn) : Prop := ∀ j : Int, match f j with
  | none => valV kvs (.inl j : Key) = none
  | some (x, num, b) => ∃ t, valV kvs (.inl j : Key) = some (.ref t) ∧ H t = some (.tup [.int x, .int num, .bl b])
/-- the keys are hands, each once -/
def HnK (kvs : List (Key × V)) (f : Hn) : Prop := (∃ ks : List Int, kvs.map (·.1) = ks.map Sum.inl ∧ ks.Nodup) ∧ ∀ j, f j ≠ none → 0 ≤ j ∧ j ≤ 3
def HnAt (H : Hp) (a : Addr) (f : Hn) (n : Nat) : Prop := ∃ kvs, H a = some (.dK kvs) ∧ kvs.length ≤ n ∧ HnK kvs f ∧ HnV H kvs f
theorem keys_put (kvs : List (Key × V)) (k : Key) (v : V) : (putK kvs k v).map (·.1) = if (valV kvs k).isSome = true then kvs.map (·.1) else kvs.map (·.1) ++ [k] := by
  unfold putK
  rw [valV_any]
  by_cases h : (valV kvs k).isSome = true
  · rw [if_pos h, if_pos h, List.map_map]
    refine List.map_congr_left fun p _ => ?_
    show (if p.1 = k then (p.1, v) else p).1 = p.1
    split <;> rfl
  · rw [if_neg h, if_neg h, List.map_append]
    rfl
theorem val_mem {kvs : List (Key × V)} {k : Key} : (valV kvs k).isSome = true ↔ k ∈ kvs.map (·.1) := by
  rw [← valV_any, List.any_eq_true]
  constructor
  · rintro ⟨p, hp, e⟩
    exact List.mem_map.mpr ⟨p, hp, of_decide_eq_true e⟩
  · intro h
    obtain ⟨p, hp, e⟩ := List.mem_map.mp h
    exact ⟨p, hp, decide_eq_true e⟩
theorem HnK.put {kvs : List (Key × V)} {f : Hn} {j : Int} {v : V} {x : Int × Int × Bool} (h : HnK kvs f) (h0 : 0 ≤ j) (h3 : j ≤ 3) : HnK (putK kvs (.inl j) v) (f.set j x) := by
  obtain ⟨⟨ks, e, nd⟩, r⟩ := h
  refine ⟨?_, fun i hi => ?_⟩
  · rw [keys_put]
    split
    · exact ⟨ks, e, nd⟩
    · rename_i hn
      refine ⟨ks ++ [j], by rw [e, List.map_append]; rfl, ?_⟩
      rw [List.nodup_append]
      refine ⟨nd, by simp, fun a ha b hb => ?_⟩
      rw [List.mem_singleton.mp hb]
      intro z
      apply hn
      rw [val_mem, e]
      exact List.mem_map.mpr ⟨a, ha, by rw [z]⟩
  · unfold Hn.set at hi
    by_cases z : i = j
    · rw [z]; exact ⟨h0, h3⟩
    · rw [if_neg z] at hi
      exact r i hi
/-- some dict -/
def GoAt (H : Hp) (a : Addr) (_ : Nat) : Prop := ∃ kvs, H a = some (.dK kvs)
/-! rows that tell the same at a moment -/
def shw (m : Int) (f : Rw) (k : Int) : Option (Int × Int) := match f k with
  | none => none
  | some x => if shB x.2 m = true then some x else none
def Sim (m : Int) (f g : Rw) : Prop := ∀ k, shw m f k = shw m g k
theorem Sim.refl (m : Int) (f : Rw) : Sim m f f := fun _ => rfl
theorem Sim.trans {m : Int} {f g h : Rw} (a : Sim m f g) (b : Sim m g h) : Sim m f h := fun k => (a k).trans (b k)
theorem seen_shw (m : Int) (f : Rw) (k : Int) : seen m f k = (shw m f k).map (·.1) := by
  unfold seen shw
  cases f k with
  | none => rfl
  | some x =>
    obtain ⟨w, e⟩ := x
    show (if shB e m = true then some w else none) = ((if shB e m = true then some (w, e) else none).map (·.1) : Option Int)
    split <;> rfl
theorem Sim.seen {m : Int} {f g : Rw} (s : Sim m f g) (k : Int) : S02.seen m f k = S02.seen m g k := by rw [seen_shw, seen_shw, s k]
theorem Sim.set {m : Int} {f g : Rw} (s : Sim m f g) (k : Int) (x : Option (Int × Int)) : Sim m (f.set k x) (g.set k x) := fun j => by
  unfold shw Rw.set
  by_cases e : j = k
  · rw [if_pos e, if_pos e]
  · rw [if_neg e, if_neg e]
    exact s j
/-- both none, or both there and alike -/
def SimO (m : Int) : Option Rw → Option Rw → Prop
  | none, none => True
  | some f, some g => Sim m f g
  | _, _ => False
theorem step_add (m : Int) (f : Rw) (k x : Int) : step m f (.add k x) = (match shw m f k with
  | none => none
  | some y => if inB 0 999 (y.1 + x) = true then some (f.set k (some (y.1 + x, y.2))) else none) := by
  show (match f k with
    | none => none
    | some (w, e) => if shB e m = true ∧ inB 0 999 (w + x) = true then some (f.set k (some (w + x, e))) else none) = _
  unfold shw
  cases q : f k with
  | none => rfl
  | some y =>
    obtain ⟨w, e⟩ := y
    show (if shB e m = true ∧ inB 0 999 (w + x) = true then some (f.set k (some (w + x, e))) else none) = (match (if shB e m = true then some (w, e) else none) with
      | none => none
      | some y => if inB 0 999 (y.1 + x) = true then some (f.set k (some (y.1 + x, y.2))) else none)
    by_cases h : shB e m = true
    · rw [if_pos h]
      by_cases g : inB 0 999 (w + x) = true
      · rw [if_pos ⟨h, g⟩]
        exact (if_pos g).symm
      · rw [if_neg fun z => g z.2]
        exact (if_neg g).symm
    · rw [if_neg h, if_neg fun z => h z.1]
theorem Sim.step {m : Int} {f g : Rw} (s : Sim m f g) (d : Dd) : SimO m (S02.step m f d) (S02.step m g d) := by
  cases d with
  | put k w l => exact s.set _ _
  | drop k => exact s.set _ _
  | add k x =>
    rw [step_add, step_add, s k]
    cases shw m g k with
    | none => exact trivial
    | some y =>
      show SimO m (if inB 0 999 (y.1 + x) = true then some _ else none) (if inB 0 999 (y.1 + x) = true then some _ else none)
      by_cases h : inB 0 999 (y.1 + x) = true
      · rw [if_pos h, if_pos h]
        exact s.set _ _
      · rw [if_neg h, if_neg h]
        exact trivial
  | iff k w =>
    show SimO m (if S02.seen m f k = w then some f else none) (if S02.seen m g k = w then some g else none)
    rw [s.seen k]
    by_cases h : S02.seen m g k = w
    · rw [if_pos h, if_pos h]
      exact s
    · rw [if_neg h, if_neg h]
      exact trivial
theorem Sim.steps {m : Int} : ∀ {ds : List Dd} {f g : Rw}, Sim m f g → SimO m (S02.steps m f ds) (S02.steps m g ds)
  | [], _, _, s => s
  | d :: ds, f, g, s => by
    have h := s.step d
    unfold S02.steps
    cases e1 : S02.step m f d with
    | none =>
      cases e2 : S02.step m g d with
      | none => exact trivial
      | some g' => rw [e1, e2] at h; exact h.elim
    | some f' =>
      cases e2 : S02.step m g d with
      | none => rw [e1, e2] at h; exact h.elim
      | some g' =>
        rw [e1, e2] at h
        exact Sim.steps (show Sim m f' g' from h)
theorem shB_le {e m n : Int} (h : m ≤ n) (q : shB e n = true) : shB e m = true := by
  rw [shB_t] at q ⊢
  omega
theorem shw_le {m n : Int} (h : m ≤ n) (f : Rw) (k : Int) : shw n f k = (shw m f k).filter fun x => shB x.2 n := by
  unfold shw
  cases f k with
  | none => rfl
  | some x =>
    by_cases q : shB x.2 n = true
    · simp only [q, shB_le h q, if_true, Option.filter_some]
    · by_cases r : shB x.2 m = true
      · simp only [q, r, if_true, if_false, Option.filter_some, Bool.false_eq_true]
      · simp only [q, r, if_false, Option.filter_none, Bool.false_eq_true]
theorem Sim.mono {m n : Int} {f g : Rw} (s : Sim m f g) (h : m ≤ n) : Sim n f g := fun k => by rw [shw_le h, shw_le h, s k]
/-- a row that has ended is let go -/
theorem Sim.drop {m : Int} {f : Rw} {k : Int} (h : shw m f k = none) : Sim m (f.set k none) f := fun j => by
  by_cases e : j = k
  · subst e
    rw [h]
    unfold shw Rw.set
    rw [if_pos rfl]
  · unfold shw Rw.set
    rw [if_neg e]
def RsAt (H : Hp) (a : Addr) (m : Int) (f : Rw) (n : Nat) : Prop := ∃ f', Sim m f' f ∧ RwAt H a f' n
section
variable {F : Addr → Prop} {H G : Hp} {a : Addr} {n m : Nat}
theorem HnV.kt (k : Kt F H G) {kvs : List (Key × V)} {f : Hn} (q : HnV H kvs f) : HnV G kvs f := fun j => by
  have := q j
  cases hf : f j with
  | none =>
    rw [hf] at this
    exact this
  | some p =>
    obtain ⟨x, num, b⟩ := p
    rw [hf] at this
    obtain ⟨t, h1, h2⟩ := this
    exact ⟨t, h1, k.tup h2⟩
theorem HnAt.kt (k : Kt F H G) {f : Hn} (h : HnAt H a f n) (nf : ¬ F a) : HnAt G a f n := by
  obtain ⟨kvs, e, l, q, v⟩ := h
  exact ⟨kvs, k.dK e nf, l, q, v.kt k⟩
theorem HnAt.le {f : Hn} (h : HnAt H a f n) (l : n ≤ m) : HnAt H a f m := let ⟨kvs, e, q, r⟩ := h; ⟨kvs, e, Nat.le_trans q l, r⟩
theorem HnAt.put {f : Hn} {kvs : List (Key × V)} {j x num : Int} {b : Bool} {t : Addr} (h : HnAt H a f n) (hd : H a = some (.dK kvs)) (h0 : 0 ≤ j) (h3 : j ≤ 3) (ht : H t = some (.tup [.int x, .int num, .bl b])) : HnAt (upd H a (.dK (putK kvs (.inl j) (.ref t)))) a (f.set j (x, num, b)) (n + 1) := by
  obtain ⟨kv2, e1, l, hk, q⟩ := h
  obtain rfl : kvs = kv2 := by rw [e1] at hd; cases hd; rfl
  have nt : ∀ {t : Addr} {xs : List V}, H t = some (.tup xs) → t ≠ a := fun h => ne_of h e1 (by intro z; cases z)
  refine ⟨_, upd_same, Nat.le_trans (length_putK _ _ _) (by omega), hk.put h0 h3, fun i => ?_⟩
  rw [valV_put]
  unfold Hn.set
  by_cases hj : i = j
  · rw [if_pos hj, if_pos (by rw [hj])]
    exact ⟨t, rfl, by rw [upd_ne (nt ht)]; exact ht⟩
  · rw [if_neg hj, if_neg (fun z => hj (Sum.inl.inj z))]
    have := q i
    cases hf : f i with
    | none =>
      rw [hf] at this
      exact this
    | some p =>
      obtain ⟨x', num', b'⟩ := p
      rw [hf] at this
      obtain ⟨t', h1, h2⟩ := this
      exact ⟨t', h1, by rw [upd_ne (nt h2)]; exact h2⟩
theorem HnAt.dc {f : Hn} (h : HnAt H a f n) : ∃ kvs, H a = some (.dK kvs) := let ⟨kvs, e, _⟩ := h; ⟨kvs, e⟩
theorem HnAt.copy {b : Addr} {f : Hn} {kvs : List (Key × V)} (R : HnAt H a f n) (hd : H a = some (.dK kvs)) (hb : G b = some (.dK kvs)) (k : Kt No H G) : HnAt G b f n := by
  obtain ⟨kv2, e1, l, hk, q⟩ := R
  obtain rfl : kvs = kv2 := by rw [e1] at hd; cases hd; rfl
  exact ⟨kvs, hb, l, hk, q.kt k⟩
theorem RwAt.dc {f : Rw} (h : RwAt H a f n) : ∃ kvs, H a = some (.dK kvs) := let ⟨kvs, e, _⟩ := h; ⟨kvs, e⟩
theorem RwAt.copy {b : Addr} {f : Rw} {kvs : List (Key × V)} (R : RwAt H a f n) (hd : H a = some (.dK kvs)) (hb : G b = some (.dK kvs)) (k : Kt No H G) : RwAt G b f n := by
  obtain ⟨kv2, e1, l, q⟩ := R
  obtain rfl : kvs = kv2 := by rw [e1] at hd; cases hd; rfl
  refine ⟨kvs, hb, l, fun j => ?_⟩
  have := q j
  cases e : f j with
  | none => rw [e] at this; exact this
  | some p =>
    obtain ⟨w1, e1⟩ := p
    rw [e] at this
    obtain ⟨t, h1, h2⟩ := this
    exact ⟨t, h1, k.tup h2⟩
theorem GoAt.kt (k : Kt F H G) (h : GoAt H a n) (nf : ¬ F a) : GoAt G a n := let ⟨kvs, e⟩ := h; ⟨kvs, k.dK e nf⟩
theorem GoAt.le (h : GoAt H a n) (_ : n ≤ m) : GoAt H a m := h
theorem GoAt.dc (h : GoAt H a n) : ∃ kvs, H a = some (.dK kvs) := h
theorem GoAt.up {b : Addr} {kvs ms : List (Key × V)} (h : GoAt H a n) (_ : H b = some (.dK kvs)) : GoAt (upd H b (.dK ms)) a m := by
  by_cases e : a = b
  · exact ⟨ms, by rw [e, upd_same]⟩
  · obtain ⟨ks, z⟩ := h
    exact ⟨ks, by rw [upd_ne e]; exact z⟩
theorem RsAt.kt {mo : Int} {f : Rw} (k : Kt F H G) (h : RsAt H a mo f n) (nf : ¬ F a) : RsAt G a mo f n := let ⟨f', s, R⟩ := h; ⟨f', s, R.kt k nf⟩
theorem RsAt.le {mo : Int} {f : Rw} (h : RsAt H a mo f n) (l : n ≤ m) : RsAt H a mo f m := let ⟨f', s, R⟩ := h; ⟨f', s, R.le l⟩
theorem RsAt.dc {mo : Int} {f : Rw} (h : RsAt H a mo f n) : ∃ kvs, H a = some (.dK kvs) := let ⟨_, _, R⟩ := h; R.dc
theorem RsAt.copy {mo : Int} {b : Addr} {f : Rw} {kvs : List (Key × V)} (h : RsAt H a mo f n) (hd : H a = some (.dK kvs)) (hb : G b = some (.dK kvs)) (k : Kt No H G) : RsAt G b mo f n := let ⟨f', s, R⟩ := h; ⟨f', s, R.copy hd hb k⟩
theorem RsAt.later {mo mo' : Int} {f : Rw} (h : RsAt H a mo f n) (l : mo ≤ mo') : RsAt H a mo' f n := let ⟨f', s, R⟩ := h; ⟨f', s.mono l, R⟩
end
structure TT where
  rows : Rw
  mom : Int
  num : Int
  hands : Hn
def TT.new : TT := ⟨fun _ => none, 0, 0, fun _ => none⟩
def tfl (n m : Int) (r h : Addr) : List (Str × V) := [("number", .int n), ("moment", .int m), ("rows", .ref r), ("hands", .ref h)]
section
variable (n m i : Int) (r h x : Addr)
theorem l_num : (tfl n m r h).lookup ("number" : Str) = some (.int n) := rfl
theorem l_mom : (tfl n m r h).lookup ("moment" : Str) = some (.int m) := rfl
theorem l_rows : (tfl n m r h).lookup ("rows" : Str) = some (.ref r) := rfl
theorem l_hands : (tfl n m r h).lookup ("hands" : Str) = some (.ref h) := rfl
theorem p_num : putF "number" (.int i) (tfl n m r h) = tfl i m r h := rfl
theorem p_mom : putF "moment" (.int i) (tfl n m r h) = tfl n i r h := rfl
theorem p_rows : putF "rows" (.ref x) (tfl n m r h) = tfl n m x h := rfl
theorem p_hands : putF "hands" (.ref x) (tfl n m r h) = tfl n m r x := rfl
end
theorem okC {P : Program} {w : World} {K : PySem.W.Frag} {mg : Str → Option Value} {base : Heap} {x qual : Str} {st : Stmt} {f c : Addr} {N ps : List Str} {k : Nat} {sp : Sp} (F : FnC K x qual st f c)
    (S : FnScope N ps (defScope st)) (len : ∀ vs H Q E, sp vs H Q E → vs.length = ps.length)
    (body : ∀ (Ar : Around) (outer : List Env) (s : Shared) (H : Hp) (vs : List V) (Q : VK) (E : XK), Room k (Ar.deeper (envOfC qual (defScope st) s.heap.objs.size f (.ref c))) → sp vs H Q E →
      ∃ t, PSs (cxOf CX0 P w K mg base N qual (defScope st) f (.ref c) Ar outer s H E).nox (defBody st) t ∧ t { nx := fun _ G => Q .non G, rt := Q } (L2.start N vs) H)
    (hb : ∀ (kV doc pm : Value) (an : Option Addr) (ct : Value) (us : List Value), us.length = ps.length → bindArgs (PySem.W.fnOf x qual (defArgs st) (defBody st) (defScope st) .none kV doc pm an (.ref c) ct) ⟨us, []⟩ = pure (ps.zip us)) :
    ∃ fd, FnOk P w K mg base CX0 (k + 1) f fd ps sp ∧ Binds K fd ps [] := by
  obtain ⟨oc, od, kV, doc, pm, an, ct, osl, lk, hcd⟩ := F.ex
  refine ⟨_, fn_of lk hcd S len fun Ar outer s H vs Q E hr hsp => ?_, fun s us X hl => ?_⟩
  · obtain ⟨t, ht, q⟩ := body Ar outer s H vs Q E hr hsp
    exact ⟨t, ht.nox, q⟩
  · rw [List.append_nil] at hl ⊢
    exact BindsTo.of_eq (hb _ _ _ _ _ us hl)
theorem okCN {P : Program} {w : World} {K : PySem.W.Frag} {mg : Str → Option Value} {base : Heap} {x qual : Str} {st : Stmt} {f c : Addr} {N ps : List Str} {k : Nat} {sp : Sp} (F : FnC K x qual st f c)
    (S : FnScope N ps (defScope st)) (len : ∀ vs H Q E, sp vs H Q E → vs.length = ps.length)
    (body : ∀ (Ar : Around) (outer : List Env) (s : Shared) (H : Hp) (vs : List V) (Q : VK) (E : XK), Room k (Ar.deeper (envOfC qual (defScope st) s.heap.objs.size f (.ref c))) → sp vs H Q E →
      ∃ t, PSs (cxOf (L2N.CX P w) P w K mg base N qual (defScope st) f (.ref c) Ar outer s H E) (defBody st) t ∧ t { nx := fun _ G => Q .non G, rt := Q } (L2.start N vs) H)
    (hb : ∀ (kV doc pm : Value) (an : Option Addr) (ct : Value) (us : List Value), us.length = ps.length → bindArgs (PySem.W.fnOf x qual (defArgs st) (defBody st) (defScope st) .none kV doc pm an (.ref c) ct) ⟨us, []⟩ = pure (ps.zip us)) :
    ∃ fd, FnOk P w K mg base (L2N.CX P w) (k + 1) f fd ps sp ∧ Binds K fd ps [] := by
  obtain ⟨oc, od, kV, doc, pm, an, ct, osl, lk, hcd⟩ := F.ex
  refine ⟨_, fn_of lk hcd S len fun Ar outer s H vs Q E hr hsp => ?_, fun s us X hl => ?_⟩
  · obtain ⟨t, ht, q⟩ := body Ar outer s H vs Q E hr hsp
    exact ⟨t, ht, q⟩
  · rw [List.append_nil] at hl ⊢
    exact BindsTo.of_eq (hb _ _ _ _ _ us hl)
end S02

set_option Elab.async false
set_option linter.all false
set_option maxRecDepth 100000
set_option maxHeartbeats 4000000
/-! ### rows read, or refused -/
namespace S02
open PySem PySem.Spec PyProof.Rows L2 K5 SupX GenX TL
theorem deedsR_of : ∀ {xs : List Str} {ds : List Dd}, Paired (fun x d => deedR x = some d) xs ds → deedsR xs = some ds
  | _, _, .nil => rfl
  | _, _, .cons h r => by
    unfold deedsR
    rw [h, deedsR_of r]
theorem headR_two (a b : Str) : headR [a, b] = (match numR a, numR b with
    | some h, some y => some (h, y)
    | _, _ => none) := rfl
theorem headR_bad {a b : Str} (h : numR a = none ∨ numR b = none) : headR [a, b] = none := by
  rw [headR_two]
  rcases h with h | h
  · rw [h]
  · rw [h]; cases numR a <;> rfl
theorem headR_ok {a b : Str} {m n : Nat} (h : numR a = some m) (h2 : numR b = some n) : headR [a, b] = some (m, n) := by rw [headR_two, h, h2]
section
variable {P : Program} {w : World} {K : PySem.W.Frag} {mg : Str → Option Value} {base : Heap} {A : Ad} {B fR fI pR : Addr}
abbrev Nscread_row : List Str := ["text", "row", "head", "colon", "tail", "numbers", "hand", "letter", "deed"]
theorem scread_row : FnScope Nscread_row ["text", "row"] (defScope s_read_row) := ⟨rfl, rfl, rfl, by decide +kernel, rfl, by decide +kernel, by decide +kernel⟩
def spRowX (A : Ad) (pR : Addr) : Sp := fun vs H Q E => ∃ (x : Str) (row : Nat), vs = [.str x, .int (row : Nat)] ∧ Tg [pR] H ∧ row < 100000 ∧ (tl x).length ≤ 50000 ∧ (∀ g, rowR x = some g → ∀ G u, Kg [pR] No H G → GdAt G (.ref u) g → Q (.ref u) G) ∧ (rowR x = none → ∀ G, Kg [pR] No H G → ErT A E G row)
theorem ok_rowX (T : Txt K mg A) (X : Ex P w K mg A B fR fI) (htop : (P.main.scope.names.lookup ("super" : Str)).isSome = false) (TR : GxR.TabB base mg (A.co 31 0) pR) : ∃ fd, FnOk P w K mg base (L2N.CX P w) 10 (A.d 31) fd ["text", "row"] (spRowX A pR) ∧ Binds K fd ["text", "row"] [] := by
  obtain ⟨fd1, Gread_number, bread_number⟩ := ok_num (P := P) (w := w) (base := base) T X htop
  obtain ⟨fd2, Gread_deed, bread_deed⟩ := ok_deedX (P := P) (w := w) (base := base) T X htop
  obtain ⟨fdB, GB, bB⟩ := ok_initR (P := P) (w := w) (base := base) T X htop
  refine okCN T.C_read_row scread_row (fun vs H Q E h => ?_) (fun Ar outer s0 H vs Q E hr h => ?_) (fun _ _ _ _ _ us hl => match us, hl with | [_, _], _ => rfl)
  · obtain ⟨x, row, rfl, _⟩ := h
    rfl
  · obtain ⟨x, row, rfl, TG, hrow, hsz, k, kE⟩ := h
    have hu := hu_of hr
    have tk : L2N.Takes (cxOf (L2N.CX P w) P w K mg base Nscread_row "read_row" (defScope s_read_row) (A.d 31) (.ref (A.co 31 0)) Ar outer s0 H E) (fun cls d _ G => E cls d G) := L2N.takes_of rfl rfl rfl rfl
    refine ⟨_, (pss_cons (ps_asg (pe_partition (pv 0) pe_str) (pg_tup rfl (pgs_cons (pg_name (i := 2) scread_row.nd rfl (Or.inl rfl)) (pgs_cons (pg_name (i := 3) scread_row.nd rfl (Or.inl rfl)) (pgs_cons (pg_name (i := 4) scread_row.nd rfl (Or.inl rfl)) pgs_nil)))))
      (pss_cons (ps_set (i := 5) scread_row.nd rfl (Or.inl rfl) (pe_split (pv 2) pe_str))
      (pss_cons (ps_if (PW.pt (pw_or (pt_not (pt_truth (pv 3) (by intro _; rfl))) (pw_or1 (pt_cmpR op_ne (pe_callB call_len_seq (by rfl) T.len PySem.boot_len (pa_cons (pv 5) pa_nil)) pe_int (nomark _)))))
        (pss_one (L2N.ps_raise rfl tk (pmk_sup X.rcls X.rinit GB bB (hr.mono (by first | decide | omega)) rfl T.c_BadText (pv 1))))
        pss_nil)
      (pss_cons (ps_set (i := 6) scread_row.nd rfl (Or.inl rfl) (pe_call (E := E) Gread_number (hr.mono (by first | decide | omega)) rfl T.read_number.at_ T.read_number.kp bread_number .nil (L2N.passes_call tk fun _ _ _ _ h => h) (pa_cons (pe_ix ix_list (pv 5) pe_int (fun _ _ => rfl)) (pa_cons (pv 1) pa_nil))))
      (pss_cons (ps_set (i := 7) scread_row.nd rfl (Or.inl rfl) (pe_call (E := E) Gread_number (hr.mono (by first | decide | omega)) rfl T.read_number.at_ T.read_number.kp bread_number .nil (L2N.passes_call tk fun _ _ _ _ h => h) (pa_cons (pe_ix ix_list (pv 5) pe_int (fun _ _ => rfl)) (pa_cons (pv 1) pa_nil))))
      (pss_one (ps_ret (pe_tup (pa_cons (pv 6) (pa_cons (pv 7) (pa_cons (GenXR.pe_tupGR (k := 6) (E := fun c d G => c = .ref (A.c 12) ∧ E c d G) (GenXR.pgen_gexR (k := 5) (EX := fun c d G => c = .ref (A.c 12) ∧ E c d G) (own := [("deed", 8)]) (g := gName 8) (tt := tYes) (te := tCall (spDeedX A) [] (fun c d G => c = .ref (A.c 12) ∧ E c d G) (tCons (tVar 8) (tCons (tVar 1) tNil))) hr.hd (by have := hr.dp; show (Ar.deeper _).depth < _; omega) TR rfl (blkOk_by (N := Nscread_row) (sc := defScope s_read_row) (by decide +kernel)) scread_row.nd (by decide +kernel) rfl rfl (pi_list (pe_split (pv 4) pe_str)) (fun _ => rfl) (fun _ _ _ _ _ _ _ _ => pg_name (i := 8) scread_row.nd rfl (Or.inl rfl)) (fun _ _ _ _ _ _ _ _ => pts_nil) (fun _ _ _ _ _ _ _ hr tkb => by exact pe_call Gread_deed (hr.mono (by decide)) rfl T.read_deed.at_ T.read_deed.kp bread_deed .nil (L2N.passes_call tkb fun _ _ _ _ h => h) (pa_cons (pv 8) (pa_cons (pv 1) pa_nil)))) (L2N.passes_call tk fun _ _ _ _ h => h.2) (fun cls d H h => by rw [h.1]; exact X.nst) (hr.mono (by decide)) rfl T.tuple) pa_nil))))))))))), ?_⟩
    have raise : ∀ {o2 o3 o4 o5 o6 o7 o8 : Option V} (J : Hp), Kg [pR] No H J → rowR x = none → tMkS (A.c 12) "row" (tVar 1) [some (.str x), some (.int (row : Nat)), o2, o3, o4, o5, o6, o7, o8] J (fun cls d H' => E cls d H') := fun J kJ hn => ⟨_, rfl, row, rfl, sm_row hrow, fun d hd => kE hn J kJ d hd⟩
    have hpar : ∃ hd co ta, Txt.partition x ": " = (hd, co, ta) ∧ (tl hd).length ≤ 50000 ∧ (tl ta).length ≤ 50000 ∧ ((co = ": " ∧ rowR x = bothR (headR (Txt.split hd " ")) (deedsR (Txt.split ta "; "))) ∨ (co = "" ∧ rowR x = none)) := by
      rcases halves x with ⟨a, b, h1, h2, h3, h4⟩ | ⟨h1, h2⟩
      · refine ⟨a, _, b, h1, by omega, by omega, .inl ⟨rfl, ?_⟩⟩
        unfold rowR
        rw [h1]
        exact if_neg (by decide +kernel)
      · refine ⟨x, _, _, h1, by omega, Nat.zero_le _, .inr ⟨rfl, ?_⟩⟩
        unfold rowR
        rw [h1]
        exact if_pos rfl
    obtain ⟨hd, co, ta, epar, lh, lt, hco⟩ := hpar
    refine ⟨_, rfl, ⟨_, rfl⟩, x, ": ", rfl, rfl, by decide +kernel, by rw [len_tl]; exact Nat.le_trans hsz (by decide), ?_⟩
    rw [epar]
    refine fun p np => ?_
    have kp : Kp No H (upd H p (.tup [.str hd, .str co, .str ta])) := Kp.new np
    have ep : upd H p (.tup [.str hd, .str co, .str ta]) p = some (.tup [.str hd, .str co, .str ta]) := upd_same
    show ∃ _, _
    generalize upd H p (.tup [.str hd, .str co, .str ta]) = H1 at kp ep ⊢
    refine ⟨p, _, rfl, SqT.of ep, rfl, _, _, rfl, _, _, rfl, _, _, rfl, rfl, ?_⟩
    refine ⟨_, rfl, ⟨_, rfl⟩, hd, " ", rfl, rfl, by decide +kernel, by rw [len_tl]; exact Nat.le_trans (Nat.add_le_add_right lh 2) (by decide), ?_⟩
    have lws := sepS.len hd
    generalize hws : Txt.split hd " " = ws at lws hco ⊢
    refine fun q nq => ?_
    have kq : Kp No H1 (upd H1 q (.lst (ws.map V.str))) := Kp.new nq
    have eq : upd H1 q (.lst (ws.map V.str)) q = some (.lst (ws.map V.str)) := upd_same
    have kH2 := kp.trans kq fun _ z => False.elim z
    show ∃ _, _
    generalize upd H1 q (.lst (ws.map V.str)) = H2 at kq eq kH2 ⊢
    rcases hco with ⟨rfl, erow⟩ | ⟨rfl, erow⟩
    rotate_left
    · exact ⟨_, rfl, false, ⟨by decide +kernel, rfl⟩, iteT (raise _ (Kg.of kH2) erow)⟩
    refine ⟨_, rfl, true, ⟨by decide +kernel, rfl⟩, iteF ⟨_, rfl, q, _, rfl, .inl (SqL.of eq), rfl, _, rfl, ?_⟩⟩
    by_cases h2 : ws.length = 2
    rotate_left
    · have e1 : (!decide (V.int (((ws.map V.str).length : Nat) : Int) = V.int 2)) = true := by
        rw [List.length_map, Bool.not_eq_true', decide_eq_false_iff_not]
        intro z
        injection z with z
        omega
      rw [e1]
      have hn : rowR x = none := by
        rw [erow]
        have : headR ws = none := by
          unfold headR
          split
          · simp at h2
          · rfl
        rw [this]
        rfl
      exact iteT (raise _ (Kg.of kH2) hn)
    obtain ⟨w0, w1, rfl⟩ : ∃ a b, ws = [a, b] := by
      match ws, h2 with
      | [a, b], _ => exact ⟨a, b, rfl⟩
    have lw : ∀ y ∈ [w0, w1], (tl y).length ≤ 100000 := fun y hy => by rw [← hws] at hy; have := sepS.pcs hy; omega
    refine iteF ?_
    have hnone : ∀ y ∈ [w0, w1], numR y = none → rowR x = none := fun y hy hn => by
      rw [erow]
      have : headR [w0, w1] = none := by
        simp only [List.mem_cons, List.not_mem_nil, or_false] at hy
        rcases hy with rfl | rfl
        · exact headR_bad (.inl hn)
        · exact headR_bad (.inr hn)
      rw [this]
      rfl
    refine ⟨_, rfl, q, _, 0, _, rfl, rfl, SqL.of eq, atI_nat (j := 0) rfl, _, rfl, w0, row, rfl, hrow, lw w0 (by simp), fun hN h0 G1 k1 => ?_, fun hn G kG => kE (hnone w0 (by simp) hn) G (Kg.of (kH2.trans kG fun _ z => False.elim z))⟩
    have eq1 := k1.t.lst eq fun z => z
    refine ⟨_, rfl, q, _, 1, _, rfl, rfl, SqL.of eq1, atI_nat (j := 1) rfl, _, rfl, w1, row, rfl, hrow, lw w1 (by simp), fun xN h1 G2 k2 => ?_, fun hn G kG => kE (hnone w1 (by simp) hn) G (Kg.of ((kH2.trans k1 fun _ z => False.elim z).trans kG fun _ z => False.elim z))⟩
    have kG2 : Kp No H G2 := (kH2.trans k1 fun _ z => False.elim z).trans k2 fun _ z => False.elim z
    have ehd : headR [w0, w1] = some (hN, xN) := headR_ok h0 h1
    rw [ehd] at erow
    refine ⟨_, rfl, _, rfl, _, rfl, ⟨_, rfl⟩, ta, "; ", rfl, rfl, by decide +kernel, by rw [len_tl]; exact Nat.le_trans (Nat.add_le_add_right lt 2) (by decide), ?_⟩
    have lps := sepD.len ta
    have pps : ∀ {p : Str}, p ∈ Txt.split ta "; " → (tl p).length ≤ (tl ta).length := fun {p} hp => sepD.pcs hp
    generalize Txt.split ta "; " = pcs at lps pps erow ⊢
    refine fun q2 nq2 => ?_
    have kq2 : Kp No G2 (upd G2 q2 (.lst (pcs.map V.str))) := Kp.new nq2
    have eq2 : upd G2 q2 (.lst (pcs.map V.str)) q2 = some (.lst (pcs.map V.str)) := upd_same
    generalize upd G2 q2 (.lst (pcs.map V.str)) = G3 at kq2 eq2 ⊢
    have kG3 : Kp No H G3 := kG2.trans kq2 fun _ z => False.elim z
    obtain ⟨ps, hP, tri⟩ := (TG.kp kG3) pR List.mem_cons_self
    refine ⟨q2, rfl, ⟨_, SqL.of eq2⟩, ps, hP, tri, fun qs tq => ?_⟩
    have kt : Kg [pR] No G3 (upd G3 pR (.tbl qs)) := Kg.tab List.mem_cons_self hP tq
    refine gx_list (K := K) (a := q2) (xs := pcs.map V.str) (fun i ys J => Kg [pR] No G3 J ∧ ys.length ≤ i ∧ ∃ ds, Paired (fun x d => deedR x = some d) (pcs.take i) ds ∧ Paired (DdAt J) ys ds) ⟨kt, Nat.le_refl _, [], .nil, .nil⟩ (fun i ys J _ ⟨kJ, _⟩ => SqL.of (kJ.t.lst eq2 fun z => z)) ?_ ?_
    · rintro i y ys J hy ⟨kJ, li, ds, pd, pJ⟩
      rw [List.getElem?_map] at hy
      obtain ⟨m, hm, rfl⟩ : ∃ m, pcs[i]? = some m ∧ V.str m = y := by
        cases e : pcs[i]? with
        | none => rw [e] at hy; cases hy
        | some d => rw [e] at hy; exact ⟨d, rfl, Option.some.inj hy⟩
      have hi := (List.getElem?_eq_some_iff.mp hm).1
      have kHJ : Kg [pR] No H J := (Kg.of kG3).trans kJ fun _ z => False.elim z
      refine ⟨rfl, _, rfl, _, rfl, m, row, rfl, hrow, by have := pps (List.mem_of_getElem? hm); omega, fun d hdd G a kG ea => ⟨Nat.lt_of_le_of_lt (show ys.length ≤ 60000 by omega) (by decide), kJ.trans (Kg.of kG) fun _ z => False.elim z, by rw [List.length_append, List.length_singleton]; omega, ds ++ [d], ?_, ?_⟩, fun hn G kG e he => ⟨rfl, kE ?_ G (kHJ.trans (Kg.of kG) fun _ z => False.elim z) e he⟩⟩
      · rw [take_snoc hm]
        exact pd.snoc hdd
      · exact (pJ.mono fun _ _ z => z.kt kG.t).snoc ⟨a, rfl, ea⟩
      · rw [erow, deedsR_bad hm hn]
        exact bothR_none _
    · rintro ys J ⟨kJ, li, ds, pd, pJ⟩
      rw [List.length_map, List.take_length] at pd
      rw [List.length_map] at li
      refine fun t nt => ⟨sz 3 (by decide), fun u nu => ?_⟩
      have k4 : Kp No J (upd (upd J t (.tup ys)) u (.tup [.int hN, .int xN, .ref t])) := (Kp.new nt).andN nu
      refine k ⟨hN, xN, ds⟩ (by rw [erow, deedsR_of pd]; rfl) _ u (((Kg.of kG3).trans kJ fun _ z => False.elim z).trans (Kg.of k4) fun _ z => False.elim z) ⟨u, .ref t, rfl, upd_same, t, ys, rfl, ?_, pJ.mono fun _ _ z => z.kt k4.t, by show ds.length ≤ 10000000; rw [← pd.length]; omega⟩
      rw [upd_ne (upd_none nu).1.symm, upd_same]
end
end S02

set_option Elab.async false
set_option linter.all false
set_option maxRecDepth 100000
set_option maxHeartbeats 4000000
/-! ### texts read, or refused -/
namespace S02
open PySem PySem.Spec PyProof.Rows L2 K5 SupX GenX TL
def rowsOf (x : Str) : List Str := if x = "" then [] else Txt.split x "\n"
abbrev RowP : Str → Gd → Prop := fun x g => rowR x = some g
section
variable {P : Program} {w : World} {K : PySem.W.Frag} {mg : Str → Option Value} {base : Heap} {A : Ad} {B fR fI pR : Addr}
abbrev Nscread_deals : List Str := ["text", "deals", "row", "told"]
theorem scread_deals : FnScope Nscread_deals ["text"] (defScope s_read_deals) := ⟨rfl, rfl, rfl, by decide +kernel, rfl, by decide +kernel, by decide +kernel⟩
def spReadX (A : Ad) (pR : Addr) : Sp := fun vs H Q E => ∃ (x : Str), vs = [.str x] ∧ Tg [pR] H ∧ (tl x).length ≤ 50000 ∧
  (∀ i y gs, (rowsOf x)[i]? = some y → rowR y = none → Paired RowP ((rowsOf x).take i) gs → ∀ G, Kg [pR] No H G → ErT A E G i) ∧
  ∀ gs, Paired RowP (rowsOf x) gs → ∀ G, Kg [pR] No H G → (badGs gs = none → ∀ l xs, H l = none → G l = some (.lst xs) → Paired (GdAt G) xs gs → Q (.ref l) G) ∧ ∀ r, badGs gs = some r → ErX A E G r
theorem ok_readX (T : Txt K mg A) (X : Ex P w K mg A B fR fI) (htop : (P.main.scope.names.lookup ("super" : Str)).isSome = false) (TR : GxR.TabB base mg (A.co 31 0) pR) : ∃ fd, FnOk P w K mg base (L2N.CX P w) 11 (A.d 32) fd ["text"] (spReadX A pR) ∧ Binds K fd ["text"] [] := by
  obtain ⟨fd, F⟩ := T.read_deals.fn
  obtain ⟨fd1, Gread_row, bread_row⟩ := ok_rowX (P := P) (w := w) (base := base) T X htop TR
  obtain ⟨fd2, Gcheck_deals, bcheck_deals⟩ := ok_cds (P := P) (w := w) (base := base) T X htop
  refine ⟨fd, okN F scread_deals (fun vs H Q E h => ?_) (fun cdv Ar outer s0 H vs Q E hr h => ?_), F.binds fun _ _ _ _ _ _ us hl => match us, hl with | [_], _ => rfl⟩
  · obtain ⟨x, rfl, _⟩ := h
    rfl
  · obtain ⟨x, rfl, TG, hsz, kE, k⟩ := h
    have hu := hu_of hr
    have tk : L2N.Takes (cxOf (L2N.CX P w) P w K mg base Nscread_deals "read_deals" (defScope s_read_deals) (A.d 32) cdv Ar outer s0 H E) (fun cls d _ G => E cls d G) := L2N.takes_of rfl rfl rfl rfl
    refine ⟨_, (pss_cons (ps_if (pt_not (pt_truth (pv 0) (by intro _; rfl)))
        (pss_one (ps_ret (pe_lst pa_nil)))
        pss_nil)
      (pss_cons (L2N.ps_setLcR (i := 1) (own := [("row", 2), ("told", 3)]) (g := (gTup K 2 (gCons (gName 2) (gCons (gName 3) gNil)))) rfl rfl tk (by rfl) scread_deals.nd rfl rfl (sw_true rfl rfl rfl (by decide +kernel)) (pi_enT (by rfl) T.enumerate (pa_cons (pe_split (pv 0) pe_str) pa_nil)) (blkOk_by (N := Nscread_deals) (sc := defScope s_read_deals) (by decide +kernel)) (fun _ _ _ _ _ _ => pg_tup rfl (pgs_cons (pg_name (i := 2) scread_deals.nd rfl (Or.inl rfl)) (pgs_cons (pg_name (i := 3) scread_deals.nd rfl (Or.inl rfl)) pgs_nil))) (fun _ _ _ _ _ _ => pts_nil) (fun _ _ _ _ _ _ tkb => by exact (pe_call (E := E) Gread_row (hr.mono (by first | decide | omega)) rfl T.read_row.at_ T.read_row.kp bread_row .nil (L2N.passes_call tkb fun _ _ _ _ h => h) (pa_cons (pv 3) (pa_cons (pv 2) pa_nil)))))
      (pss_cons (ps_expr (pe_call (E := E) Gcheck_deals (hr.mono (by first | decide | omega)) rfl T.check_deals.at_ T.check_deals.kp bcheck_deals .nil (L2N.passes_call tk fun _ _ _ _ h => h) (pa_cons (pv 1) pa_nil)))
      (pss_one (ps_ret (pv 1)))))), ?_⟩
    have tsz : x.length ≤ sizeLine := by rw [len_tl]; exact Nat.le_trans hsz (by decide)
    by_cases hne : x = ""
    · have er : rowsOf x = [] := if_pos hne
      refine ⟨_, rfl, false, ⟨tsz, by rw [hne]; decide +kernel⟩, iteT ⟨sz 0 (by decide), fun l nl => ?_⟩⟩
      exact (k [] (by rw [er]; exact .nil) _ (Kg.of (Kp.new nl))).1 rfl l [] nl upd_same .nil
    have er : rowsOf x = Txt.split x "\n" := if_neg hne
    rw [er] at kE k
    have l0 : (tl x).length ≠ 0 := fun z => hne (ext_tl (by rw [List.length_eq_zero_iff.mp z]; rfl))
    refine ⟨_, rfl, true, ⟨tsz, by rw [len_tl]; simpa using l0⟩, iteF ?_⟩
    refine ⟨_, rfl, ⟨_, rfl⟩, x, "\n", rfl, rfl, by decide +kernel, by rw [len_tl]; exact Nat.le_trans (Nat.add_le_add_right hsz 2) (by decide), ?_⟩
    have lrs := sepN.len x
    have prs : ∀ {p : Str}, p ∈ Txt.split x "\n" → (tl p).length ≤ (tl x).length := fun {p} hp => sepN.pcs hp
    generalize Txt.split x "\n" = rs at lrs prs kE k ⊢
    refine fun q nq => ?_
    have kq : Kp No H (upd H q (.lst (rs.map V.str))) := Kp.new nq
    have eq : upd H q (.lst (rs.map V.str)) q = some (.lst (rs.map V.str)) := upd_same
    generalize upd H q (.lst (rs.map V.str)) = H1 at kq eq ⊢
    refine ⟨q, rs.map V.str, rfl, .inl ⟨SqL.of eq, fun D nD => ?_⟩⟩
    have nqD : q ≠ D := fun z => by rw [z, nD] at eq; cases eq
    have kD : Kp (fun b => b = D) H1 (upd H1 D (.lst [])) := Kp.new nD
    have back : ∀ {J : Hp}, Kg [pR] (fun b => b = D) H1 J → Kg [pR] No H J := fun kJ => (Kg.of kq).trans (kJ.fresh fun b z => by rw [show b = D from z]; exact nD) fun _ z => False.elim z
    refine lc_enT (fun i J => Kg [pR] (fun b => b = D) H1 J ∧ ∃ acc gs, J D = some (.lst acc) ∧ Paired RowP (rs.take i) gs ∧ Paired (GdAt J) acc gs) ⟨Kg.of kD, [], [], upd_same, .nil, .nil⟩ (fun i J ⟨kJ, _⟩ => SqL.of (kJ.t.lst eq nqD)) ?_ ?_
    · rintro i y t J hy ⟨kJ, acc, gs, eJ, pg, pJ⟩ nt
      rw [List.getElem?_map] at hy
      obtain ⟨m, hm, rfl⟩ : ∃ m, rs[i]? = some m ∧ V.str m = y := by
        cases e : rs[i]? with
        | none => rw [e] at hy; cases hy
        | some g => rw [e] at hy; exact ⟨g, rfl, Option.some.inj hy⟩
      have hi := (List.getElem?_eq_some_iff.mp hm).1
      have kt : Kp No J (upd J t (.tup [.int (i : Nat), .str m])) := Kp.new nt
      have et : upd J t (.tup [.int (i : Nat), .str m]) t = some (.tup [.int (i : Nat), .str m]) := upd_same
      generalize upd J t (.tup [.int (i : Nat), .str m]) = J1 at kt et ⊢
      refine ⟨t, _, rfl, SqT.of et, rfl, _, _, rfl, _, _, rfl, rfl, ?_⟩
      refine ⟨rfl, _, rfl, _, rfl, m, i, rfl, ((TG.kp kq).kg kJ).kp kt, by omega, by have := prs (List.mem_of_getElem? hm); omega, fun g hg G u kG gd => ?_, fun hn G kG => kE i m gs hm hn pg G (((back kJ).trans (Kg.of kt) fun _ z => False.elim z).trans kG fun _ z => False.elim z)⟩
      have eG := kG.t.lst (kt.t.lst eJ fun z => z) fun z => z
      have kU : Kp (fun b => b = D) G (upd G D (.lst (acc ++ [.ref u]))) := Kp.updL eG rfl
      have la := pJ.length
      have lg := pg.length
      rw [List.length_take] at lg
      refine ⟨acc, eG, Nat.lt_of_le_of_lt (show acc.length ≤ 60000 by omega) (by decide), ((kJ.trans (Kg.of kt) fun _ z => False.elim z).trans kG fun _ z => False.elim z).trans (Kg.of kU) fun b z => .inl z, _, gs ++ [g], upd_same, ?_, ?_⟩
      · rw [take_snoc hm]
        exact pg.snoc hg
      · exact (pJ.mono fun _ _ z => ((z.kt kt.t).kt kG.t).kt kU.t).snoc (gd.kt kU.t)
    · rintro J ⟨kJ, acc, gs, eJ, pg, pJ⟩
      rw [List.length_map, List.take_length] at pg
      have nDH : H D = none := kq.free nD fun z => False.elim z
      have kH := back kJ
      refine ⟨_, rfl, D, acc, gs, rfl, eJ, pJ, fun G kG => ⟨fun hb => ?_, fun r hb => (k gs pg G (kH.trans (Kg.of kG) fun _ z => False.elim z)).2 r hb⟩⟩
      exact ⟨_, rfl, (k gs pg G (kH.trans (Kg.of kG) fun _ z => False.elim z)).1 hb D acc nDH (kG.t.lst eJ fun z => z) (pJ.mono fun _ _ z => z.kt kG.t)⟩
end
end S02

set_option Elab.async false
set_option linter.all false
set_option maxRecDepth 100000
set_option maxHeartbeats 4000000
namespace S02
open PySem PySem.Spec PyProof.Rows L2 K5 SupX GenX
theorem pe_never {X : Cx} {e : Expr} : PE X e (fun _ _ _ => False) := ⟨fun _ _ _ _ _ _ h => False.elim h⟩
theorem takesN0 {X : Cx} : L2N.Takes X (fun _ _ _ _ => False) := fun _ _ ⟨_, _, _, _, _, _, _, _, _, _, _, _, _, _, _, _, w⟩ => w.elim
theorem ixN_in {n : Nat} {i : Int} (h0 : 0 ≤ i) (h1 : i < n) : ixN n i = some i.toNat := by
  unfold ixN
  rw [if_pos h0, if_pos h1]
theorem shaped_of {d : PyData} (h1 : d.canLay0 = true) (h2 : d.depth ≤ 64) : SeqAt.shaped d = true := by
  unfold SeqAt.shaped
  rw [h1, decide_eq_true h2]
  rfl
def Dt (K : PySem.W.Frag) (H : Hp) (n : Nat) (v : V) (d : PyData) : Prop := Dp K H v d ∧ d.canLay0 = true ∧ d.depth ≤ n
def DtA (K : PySem.W.Frag) (H : Hp) (n : Nat) (vs : List V) (ds : List PyData) : Prop := DpAll K H vs ds ∧ PyData.canLayAll0 ds = true ∧ PyData.depthAll ds ≤ n
section
variable {K : PySem.W.Frag} {H : Hp}
theorem Dt.int (n : Nat) (i : Int) : Dt K H n (.int i) (.int i) := ⟨.int i, by simp only [PyData.canLay0], by simp only [PyData.depth]; omega⟩
theorem Dt.bl (n : Nat) (b : Bool) : Dt K H n (.bl b) (.bool b) := ⟨.bl b, by simp only [PyData.canLay0], by simp only [PyData.depth]; omega⟩
theorem Dt.non (n : Nat) : Dt K H n .non .none := ⟨.non, by simp only [PyData.canLay0], by simp only [PyData.depth]; omega⟩
theorem Dt.str (n : Nat) (x : Str) (h : PyData.strOk x = true) : Dt K H n (.str x) (.str x) := ⟨.str x, by simpa only [PyData.canLay0] using h, by simp only [PyData.depth]; omega⟩
theorem DtA.nil (n : Nat) : DtA K H n [] [] := ⟨.nil, by simp only [PyData.canLayAll0], by simp only [PyData.depthAll]; omega⟩
theorem Dt.cons {n : Nat} {v : V} {vs : List V} {d : PyData} {ds : List PyData} (h : Dt K H n v d) (hs : DtA K H n vs ds) : DtA K H n (v :: vs) (d :: ds) :=
  ⟨.cons h.1 hs.1, by simp only [PyData.canLayAll0, h.2.1, hs.2.1, Bool.and_self], by simp only [PyData.depthAll]; exact Nat.max_le.mpr ⟨h.2.2, hs.2.2⟩⟩
theorem Dt.tup {n : Nat} {a : Addr} {xs : List V} {ds : List PyData} (e : H a = some (.tup xs)) (h : DtA K H n xs ds) : Dt K H (n + 1) (.ref a) (.tuple ds) :=
  ⟨.tup (SqT.of e) h.1, by simp only [PyData.canLay0]; exact h.2.1, by simp only [PyData.depth]; have := h.2.2; omega⟩
theorem Dt.lst {n : Nat} {a : Addr} {xs : List V} {ds : List PyData} (e : H a = some (.lst xs)) (h : DtA K H n xs ds) : Dt K H (n + 1) (.ref a) (.list ds) :=
  ⟨.lst (SqL.of e) h.1, by simp only [PyData.canLay0]; exact h.2.1, by simp only [PyData.depth]; have := h.2.2; omega⟩
theorem Dt.shaped {n : Nat} {v : V} {d : PyData} (h : Dt K H n v d) (hn : n ≤ 64) : SeqAt.shaped d = true := shaped_of h.2.1 (Nat.le_trans h.2.2 hn)
theorem Dt.same {n : Nat} {v : V} {d : PyData} (h : Dt K H n v d) : PyData.eqv d d = true := SeqAt.eqv_refl d h.2.1
theorem dt_all {α : Type} {R : V → α → Prop} {n : Nat} (h : ∀ v a, R v a → ∃ d, Dt K H n v d) {xs : List V} {ys : List α} (p : Paired R xs ys) : ∃ ds, DtA K H n xs ds := by
  induction p with
  | nil => exact ⟨_, DtA.nil n⟩
  | cons r _ ih =>
    obtain ⟨d, hd⟩ := h _ _ r
    obtain ⟨ds, hds⟩ := ih
    exact ⟨_, hd.cons hds⟩
end
end S02

set_option Elab.async false
set_option linter.all false
set_option maxRecDepth 100000
set_option maxHeartbeats 1000000
namespace S02
open PySem PySem.Spec PyProof.Rows L2 K5 SupX
theorem lay_ints : ∀ ns : List Int, PyData.canLayAll0 (ns.map PyData.int) = true ∧ PyData.depthAll (ns.map PyData.int) = 0
  | [] => ⟨by simp only [List.map_nil, PyData.canLayAll0], by simp only [List.map_nil, PyData.depthAll]⟩
  | n :: ns => by
    obtain ⟨h1, h2⟩ := lay_ints ns
    exact ⟨by simp only [List.map_cons, PyData.canLayAll0, PyData.canLay0, h1, Bool.and_self], by simp only [List.map_cons, PyData.depthAll, PyData.depth, h2]; rfl⟩
theorem dp_ints {K : PySem.W.Frag} {H : Hp} : ∀ ns : List Int, DpAll K H (ns.map V.int) (ns.map PyData.int)
  | [] => .nil
  | n :: ns => .cons (.int n) (dp_ints ns)
theorem shaped_ints (ns : List Int) : SeqAt.shaped (.list (ns.map PyData.int)) = true := by
  obtain ⟨h1, h2⟩ := lay_ints ns
  exact shaped_of (by simp only [PyData.canLay0]; exact h1) (by simp only [PyData.depth, h2]; omega)
theorem shaped_nil : SeqAt.shaped (.list []) = true := shaped_ints []
theorem eqv_nil (ds : List PyData) : PyData.eqv (.list ds) (.list []) = ds.isEmpty := by
  cases ds with
  | nil => simp only [PyData.eqv, PyData.eqvAll, List.isEmpty_nil]
  | cons d ds => simp only [PyData.eqv, PyData.eqvAll, List.isEmpty_cons]
/-- the numbers that the law draws from: the rest of the script at bi, a number -/
structure BoxAt (H : Hp) (bx bi : Addr) : Prop where
  ex : ∃ (ns : List Int) (st : Int), H bx = some (.lst [.ref bi, .int st]) ∧ H bi = some (.lst (ns.map V.int)) ∧ ns.length ≤ 63
  ne : bx ≠ bi
def bF (bx bi : Addr) : Addr → Prop := fun b => b = bx ∨ b = bi
theorem BoxAt.kt {F : Addr → Prop} {H G : Hp} {bx bi : Addr} (k : Kt F H G) (b : BoxAt H bx bi) (n : ∀ a, F a → ¬ bF bx bi a) : BoxAt G bx bi := by
  obtain ⟨ns, st, h1, h2, h3⟩ := b.ex
  exact ⟨⟨ns, st, k.lst h1 fun z => n _ z (.inl rfl), k.lst h2 fun z => n _ z (.inr rfl), h3⟩, b.ne⟩
section
variable {P : Program} {w : World} {K : PySem.W.Frag} {mg : Str → Option Value} {base : Heap} {A : Ad}
theorem sctake : FnScope ["_law_box", "_law_many", "_law_number_here"] ["_law_box", "_law_many"] (defScope s_take) := ⟨rfl, rfl, rfl, by decide +kernel, rfl, by decide +kernel, by decide +kernel⟩
def spTake : Sp := fun vs H Q _ => ∃ bx bi n, vs = [.ref bx, .int n] ∧ BoxAt H bx bi ∧ 0 < n ∧ n.natAbs < 2 ^ 90 ∧ ∀ r G, 0 ≤ r → r < n → BoxAt G bx bi → Kp (bF bx bi) H G → Q (.int r) G
theorem ok_take (T : Txt K mg A) : ∃ fd, FnOk P w K mg base CX0 1 (A.d 35) fd ["_law_box", "_law_many"] spTake ∧ Binds K fd ["_law_box", "_law_many"] [] := by
  obtain ⟨fd, F⟩ := T.take.fn
  refine ⟨fd, F.ok sctake (fun vs H Q E h => ?_) (fun cdv Ar outer s H vs Q E hr h => ?_), F.binds fun _ _ _ _ _ _ us hl => match us, hl with | [_, _], _ => rfl⟩
  · obtain ⟨bx, bi, n, rfl, _⟩ := h
    rfl
  · obtain ⟨bx, bi, n, rfl, B, hn, hw, k⟩ := h
    obtain ⟨ns, st, h1, h2, h3⟩ := B.ex
    refine ⟨_, (pss_cons (ps_if (pt_cmpR (op_eqD hr.units) (pe_ix ix_list (pv 0) pe_int (fun _ _ => rfl)) (pe_lst pa_nil) (nomark _))
        (pss_cons (ps_asg (pe_op op_mod (pe_op op_mul (pe_ix ix_list (pv 0) pe_int (fun _ _ => rfl)) pe_int) pe_int) (pg_sub (pv 0) pe_int set_list))
        (pss_one (ps_ret (pe_op op_mod (pe_op op_fdiv (pe_ix ix_list (pv 0) pe_int (fun _ _ => rfl)) pe_int) (pv 1)))))
        pss_nil)
      (pss_cons (ps_set (i := 2) sctake.nd rfl (Or.inl rfl) (pe_ix ix_list (pe_ix ix_list (pv 0) pe_int (fun _ _ => rfl)) pe_int (fun _ _ => rfl)))
      (pss_cons (ps_asg (pe_op op_fdivW (pv 2) (pv 1)) (pg_sub (pe_ix ix_list (pv 0) pe_int (fun _ _ => rfl)) pe_int set_list))
      (pss_cons (ps_if (PW.pt (pw_or (pt_cmpR op_eq (pe_ix ix_list (pe_ix ix_list (pv 0) pe_int (fun _ _ => rfl)) pe_int (fun _ _ => rfl)) pe_int (nomark _)) (pw_or1 (pt_cmpR op_eq (pe_ix ix_list (pe_ix ix_list (pv 0) pe_int (fun _ _ => rfl)) pe_int (fun _ _ => rfl)) (pe_un un_neg pe_int) (nomark _)))))
        (pss_one (ps_expr (pe_bm PySem.F.plainAttrs_list PySem.F.slot_list_pop PySem.F.type_list_pop mt_popAt (pe_ix ix_list (pv 0) pe_int (fun _ _ => rfl)) (pa_cons pe_int pa_nil))))
        pss_nil)
      (pss_one (ps_ret (pe_op op_mod (pv 2) (pv 1)))))))), ?_⟩
    -- if _law_box[0] == []
    refine ⟨_, rfl, bx, _, 0, .ref bi, rfl, rfl, SqL.of h1, rfl, Nat.zero_le _, fun e ne => ?_⟩
    have g1 : upd H e (.lst []) bx = some (.lst [.ref bi, .int st]) := by rw [upd_ne (ne_of_none h1 ne)]; exact h1
    have g2 : upd H e (.lst []) bi = some (.lst (ns.map V.int)) := by rw [upd_ne (ne_of_none h2 ne)]; exact h2
    have k0 : Kp (bF bx bi) H (upd H e (.lst [])) := Kp.new ne
    refine ⟨_, _, .lst (SqL.of g2) (dp_ints ns), .lst (SqL.of upd_same) .nil, shaped_ints ns, shaped_nil, _, rfl, ?_⟩
    rw [eqv_nil]
    cases ns with
    | nil =>
      refine iteT ?_
      refine ⟨_, rfl, bx, _, 1, .int st, rfl, rfl, SqL.of g1, rfl, _, _, rfl, rfl, .inr (by decide), _, _, rfl, rfl, by show (0 : Int) < 2147483647; decide, _, rfl, bx, _, 1, 1, rfl, rfl, g1, rfl, ?_⟩
      refine ⟨_, rfl, bx, _, 1, _, rfl, rfl, SqL.of upd_same, rfl, _, _, rfl, rfl, ⟨by decide, by decide⟩, _, rfl, _, _, rfl, rfl, hn, ?_⟩
      refine k _ _ (Int.emod_nonneg _ (by omega)) (Int.emod_lt_of_pos _ hn) ⟨⟨[], _, upd_same, by rw [upd_ne B.ne.symm]; exact g2, Nat.zero_le _⟩, B.ne⟩ (k0.andL g1 (.inl rfl))
    | cons n0 ns =>
      refine iteF ?_
      have hf : ∀ a : Int, 0 ≤ a % n ∧ a % n < n := fun a => ⟨Int.emod_nonneg _ (by omega), Int.emod_lt_of_pos _ hn⟩
      refine ⟨_, rfl, bx, _, 0, .ref bi, rfl, rfl, SqL.of g1, rfl, bi, _, 0, .int n0, rfl, rfl, SqL.of g2, atI_nat (j := 0) rfl, ?_⟩
      refine ⟨_, rfl, _, rfl, _, _, rfl, rfl, wide_div hn hw (by decide) (by decide), _, rfl, bx, _, 0, .ref bi, rfl, rfl, SqL.of g1, rfl, bi, _, 0, 0, rfl, rfl, g2, ixN_in (by decide) (by simp only [List.length_map, List.length_cons]; omega), ?_⟩
      have k1 := k0.andL (o' := .lst (V.int (n0 / n) :: ns.map V.int)) g2 (.inr rfl)
      have j1 : upd (upd H e (.lst [])) bi (.lst (V.int (n0 / n) :: ns.map V.int)) bx = some (.lst [.ref bi, .int st]) := by rw [upd_ne B.ne]; exact g1
      have fin1 : BoxAt (upd (upd H e (.lst [])) bi (.lst (V.int (n0 / n) :: ns.map V.int))) bx bi := ⟨⟨n0 / n :: ns, st, j1, upd_same, h3⟩, B.ne⟩
      have last : ∀ (σ : L2.St) (J : Hp), σ = [some (.ref bx), some (.int n), some (.int n0)] → BoxAt J bx bi → Kp (bF bx bi) H J → tRet (tOp (rI (fun _ j => 0 < j) fun i j => .int (i % j)) (tVar 2) (tVar 1)) { nx := fun _ G => Q .non G, rt := Q } σ J := fun σ J e b kj => by
        subst e
        exact ⟨_, rfl, _, rfl, _, _, rfl, rfl, hn, k _ _ (hf n0).1 (hf n0).2 b kj⟩
      have pop : tDrop (tBM K "list" rPopAt (tOp (rIxL K) (tVar 0) (tC (.int 0))) (tCons (tC (.int 0)) tNil)) { nx := tRet (tOp (rI (fun _ j => 0 < j) fun i j => .int (i % j)) (tVar 2) (tVar 1)) { nx := fun _ G => Q .non G, rt := Q }, rt := Q } [some (.ref bx), some (.int n), some (.int n0)] (upd (upd H e (.lst [])) bi (.lst (V.int (n0 / n) :: ns.map V.int))) := by
        refine ⟨_, rfl, bx, _, 0, .ref bi, rfl, rfl, SqL.of j1, rfl, .inl ⟨rfl, _, SqL.of upd_same⟩, bi, _, 0, 0, V.int (n0 / n), rfl, rfl, upd_same, by decide, by decide, ?_, rfl, ?_⟩
        · exact (ixN_seq (ixN_in (by decide) (by simp only [List.length_map, List.length_cons]; omega))).1
        · refine last _ _ rfl ⟨⟨ns, st, by rw [upd_ne B.ne]; exact j1, upd_same, by rw [List.length_cons] at h3; omega⟩, B.ne⟩ (k1.andL upd_same (.inr rfl))
      refine ⟨_, rfl, bx, _, 0, .ref bi, rfl, rfl, SqL.of j1, rfl, bi, _, 0, .int (n0 / n), rfl, rfl, SqL.of upd_same, atI_nat (j := 0) rfl, rfl, _, rfl, ?_⟩
      refine ite2 (fun _ => iteT pop) (fun _ => ?_)
      refine ⟨_, rfl, bx, _, 0, .ref bi, rfl, rfl, SqL.of j1, rfl, bi, _, 0, .int (n0 / n), rfl, rfl, SqL.of upd_same, atI_nat (j := 0) rfl, 1, rfl, rfl, _, rfl, ?_⟩
      exact ite2 (fun _ => pop) (fun _ => last _ _ rfl fin1 k1)
/-! ### begun -/
theorem scbegun : FnScope ["_law_script", "_law_stirred", "_law_cell"] ["_law_script"] (defScope s_begun) := ⟨rfl, rfl, rfl, by decide +kernel, rfl, by decide +kernel, by decide +kernel⟩
def spBegun (K : PySem.W.Frag) : Sp := fun vs H Q _ => ∃ (a : Addr) (ns : List Int), vs = [.ref a] ∧ SqL K H a (ns.map V.int) ∧ ns.length ≤ 63 ∧ ∀ G bx bi, H bx = none → H bi = none → BoxAt G bx bi → Kp No H G → Q (.ref bx) G
theorem ok_begun (T : Txt K mg A) : ∃ fd, FnOk P w K mg base CX0 1 (A.d 34) fd ["_law_script"] (spBegun K) ∧ Binds K fd ["_law_script"] [] := by
  obtain ⟨fd, F⟩ := T.begun.fn
  refine ⟨fd, F.ok scbegun (fun vs H Q E h => ?_) (fun cdv Ar outer s H vs Q E hr h => ?_), F.binds fun _ _ _ _ _ _ us hl => match us, hl with | [_], _ => rfl⟩
  · obtain ⟨a, ns, rfl, _⟩ := h
    rfl
  · obtain ⟨a, ns, rfl, hS, hl, k⟩ := h
    refine ⟨_, (pss_cons (ps_set (i := 1) scbegun.nd rfl (Or.inl rfl) pe_int)
      (pss_cons (ps_for PassesOwn.never rfl (pi_list (pv 0)) (pg_name (i := 2) scbegun.nd rfl (Or.inl rfl))
        (pss_one (ps_set (i := 1) scbegun.nd rfl (Or.inl rfl) (pe_op op_mod (pe_op op_add (pe_op op_add (pe_op op_mul (pv 1) pe_int) (pe_op op_mul (pv 2) pe_int)) pe_int) pe_int))))
      (pss_one (ps_ret (pe_lst (pa_cons (pe_callTy call_list_of (by rfl) T.list (by decide +kernel) (pa_cons (pv 0) pa_nil)) (pa_cons (pe_op op_mul (pv 1) (pe_callTy call_int1 (by rfl) T.int (by decide +kernel) (pa_cons (pe_cmpR op_gt (pe_callB call_len_seq (by rfl) T.len PySem.boot_len (pa_cons (pv 0) pa_nil)) pe_int (nomark _)) pa_nil))) pa_nil))))))), ?_⟩
    refine ⟨_, rfl, a, rfl, ⟨_, hS⟩, for_list (K := K) (a := a) (xs := ns.map V.int) (fun i σ G => G = H ∧ ∃ st o, σ = [some (.ref a), some (.int st), o] ∧ 0 ≤ st ∧ st < 2147483647) ⟨rfl, 0, none, rfl, by decide, by decide⟩ (fun i σ G _ ⟨e, _⟩ => by rw [e]; exact hS) ?_ ?_⟩
    · rintro i y σ G hi ⟨rfl, st, o, rfl, h0, h1⟩
      obtain ⟨z, rfl⟩ : ∃ z, y = V.int z := by
        rw [List.getElem?_map] at hi
        cases e : ns[i]? with
        | none =>
          rw [e] at hi
          cases hi
        | some z =>
          rw [e] at hi
          exact ⟨z, (Option.some.inj hi).symm⟩
      refine ⟨_, rfl, _, _, rfl, rfl, .inr (by decide), _, rfl, _, _, rfl, rfl, .inr (by decide), _, _, rfl, rfl, _, _, rfl, rfl, _, _, rfl, rfl, by show (0 : Int) < 2147483647; decide, ?_⟩
      exact ⟨rfl, _, _, rfl, Int.emod_nonneg _ (by decide), Int.emod_lt_of_pos _ (by decide)⟩
    · rintro σ G ⟨rfl, st, o, rfl, h0, h1⟩
      refine ⟨_, rfl, a, _, rfl, .inl hS, fun bi nbi => ?_⟩
      have hS2 : SqL K (upd G bi (.lst (ns.map V.int))) a (ns.map V.int) := Same.seq (fun b o e => by rw [upd_ne (ne_of_none e nbi)]; exact e) hS
      refine ⟨_, rfl, _, rfl, a, _, rfl, .inl hS2, _, _, rfl, rfl, .inr ⟨_, rfl, _, _, rfl, rfl, .inl ⟨by omega, by omega⟩, sz 2 (by decide), fun bx nbx => ?_⟩⟩
      obtain ⟨nxi, nbx'⟩ := upd_none nbx
      exact k _ bx bi nbx' nbi ⟨⟨ns, _, upd_same, by rw [upd_ne nxi.symm, upd_same], hl⟩, nxi⟩ ((Kp.new (F := No) nbi).andN nbx)
end
end S02

set_option Elab.async false
set_option linter.all false
set_option maxRecDepth 100000
set_option maxHeartbeats 1000000
/-! ### the law's own tables -/
namespace S02
open PySem PySem.Spec PyProof.Rows L2 K5 SupX GenX
def ofs (r h : Addr) (m num : Int) : List (Key × V) := [(.inr "rows", .ref r), (.inr "hands", .ref h), (.inr "moment", .int m), (.inr "number", .int num)]
/-- the keys are 0 to 31, each once -/
def RkAt (H : Hp) (a : Addr) : Prop := ∃ kvs, H a = some (.dK kvs) ∧ ∃ ks : List Int, kvs.map (·.1) = ks.map Sum.inl ∧ ks.Nodup ∧ ∀ k ∈ ks, 0 ≤ k ∧ k ≤ 31
theorem RkAt.kt {F : Addr → Prop} {H G : Hp} (k : Kt F H G) {a : Addr} (h : RkAt H a) (n : ¬ F a) : RkAt G a := let ⟨kvs, e, q⟩ := h; ⟨kvs, k.dK e n, q⟩
theorem RkAt.copy {H G : Hp} {a b : Addr} {kvs : List (Key × V)} (h : RkAt H a) (hd : H a = some (.dK kvs)) (hb : G b = some (.dK kvs)) : RkAt G b := by
  obtain ⟨kv2, e, q⟩ := h
  obtain rfl : kvs = kv2 := by rw [e] at hd; cases hd; rfl
  exact ⟨kvs, hb, q⟩
theorem RkAt.put {H : Hp} {a : Addr} {kvs : List (Key × V)} {j : Int} {v : V} (h : RkAt H a) (hd : H a = some (.dK kvs)) (h0 : 0 ≤ j) (h1 : j ≤ 31) : RkAt (upd H a (.dK (putK kvs (.inl j) v))) a := by
  obtain ⟨kv2, e, ks, e1, nd, r⟩ := h
  obtain rfl : kvs = kv2 := by rw [e] at hd; cases hd; rfl
  refine ⟨_, upd_same, ?_⟩
  rw [keys_put]
  split
  · exact ⟨ks, e1, nd, r⟩
  · rename_i hn
    have nj : j ∉ ks := fun z => hn (by rw [val_mem, e1]; exact List.mem_map.mpr ⟨j, z, rfl⟩)
    refine ⟨ks ++ [j], by rw [e1, List.map_append]; rfl, ?_, fun k hk => ?_⟩
    · rw [List.nodup_append]
      refine ⟨nd, by simp, fun x hx y hy z => ?_⟩
      rw [List.mem_singleton.mp hy] at z
      exact nj (z ▸ hx)
    · rcases List.mem_append.mp hk with z | z
      · exact r k z
      · rw [List.mem_singleton.mp z]; exact ⟨h0, h1⟩
theorem RkAt.del {H : Hp} {a : Addr} {kvs : List (Key × V)} {j : Int} (h : RkAt H a) (hd : H a = some (.dK kvs)) : RkAt (upd H a (.dK (dropK kvs (.inl j)))) a := by
  obtain ⟨kv2, e, ks, e1, nd, r⟩ := h
  obtain rfl : kvs = kv2 := by rw [e] at hd; cases hd; rfl
  refine ⟨_, upd_same, ks.filter (fun k => !decide (k = j)), ?_, nd.filter _, fun k hk => r k (List.mem_filter.mp hk).1⟩
  have : ∀ (ks : List Int) (kvs : List (Key × V)), kvs.map (·.1) = ks.map Sum.inl → (dropK kvs (.inl j)).map (·.1) = (ks.filter (fun k => !decide (k = j))).map Sum.inl := by
    intro ks
    induction ks with
    | nil =>
      intro kvs e
      have : kvs = [] := by simpa using e
      rw [this]
      rfl
    | cons k ks ih =>
      intro kvs e
      cases kvs with
      | nil => cases e
      | cons p kvs =>
        obtain ⟨e1, e2⟩ := List.cons.inj e
        obtain ⟨pk, pv⟩ := p
        have e1 : pk = Sum.inl k := e1
        subst e1
        have := ih kvs e2
        unfold dropK at this ⊢
        rw [List.filter_cons, List.filter_cons]
        by_cases hk : k = j
        · rw [if_neg (by simp [hk]), if_neg (by simp [hk])]
          exact this
        · rw [if_pos (by simp [hk]), if_pos (by simp [hk]), List.map_cons, List.map_cons, this]
  exact this ks kvs e1
structure StL (H : Hp) (s r h : Addr) (t : TT) (n : Nat) : Prop where
  dc : H s = some (.dK (ofs r h t.mom t.num))
  rows : RwAt H r t.rows n
  hands : HnAt H h t.hands n
  sr : s ≠ r
  sh : s ≠ h
  rh : r ≠ h
  rk : RkAt H r
theorem StL.kt {F : Addr → Prop} {H G : Hp} (k : Kt F H G) {s r h : Addr} {t : TT} {n : Nat} (S : StL H s r h t n) (nf : ∀ b kvs, H b = some (.dK kvs) → (b = s ∨ b = r ∨ b = h) → ¬ F b) : StL G s r h t n := by
  obtain ⟨k1, e1⟩ := S.rows.dc
  obtain ⟨k2, e2⟩ := S.hands.dc
  exact ⟨k.dK S.dc (nf _ _ S.dc (.inl rfl)), S.rows.kt k (nf _ _ e1 (.inr (.inl rfl))), S.hands.kt k (nf _ _ e2 (.inr (.inr rfl))), S.sr, S.sh, S.rh, S.rk.kt k (nf _ _ e1 (.inr (.inl rfl)))⟩
theorem StL.no {H G : Hp} {s r h : Addr} {t : TT} {n : Nat} (S : StL H s r h t n) (k : Kp No H G) : StL G s r h t n := S.kt k.t fun _ _ _ _ z => z
theorem StL.le {H : Hp} {s r h : Addr} {t : TT} {n m : Nat} (S : StL H s r h t n) (l : n ≤ m) : StL H s r h t m := ⟨S.dc, S.rows.le l, S.hands.le l, S.sr, S.sh, S.rh, S.rk⟩
theorem o_rows {r h : Addr} {m num : Int} : valV (ofs r h m num) (.inr "rows" : Key) = some (.ref r) := rfl
theorem o_hands {r h : Addr} {m num : Int} : valV (ofs r h m num) (.inr "hands" : Key) = some (.ref h) := rfl
theorem o_moment {r h : Addr} {m num : Int} : valV (ofs r h m num) (.inr "moment" : Key) = some (.int m) := rfl
theorem o_number {r h : Addr} {m num : Int} : valV (ofs r h m num) (.inr "number" : Key) = some (.int num) := rfl
theorem q_rows {r h x : Addr} {m num : Int} : putK (ofs r h m num) (.inr "rows" : Key) (.ref x) = ofs x h m num := rfl
theorem q_moment {r h : Addr} {m num x : Int} : putK (ofs r h m num) (.inr "moment" : Key) (.int x) = ofs r h x num := rfl
theorem q_number {r h : Addr} {m num x : Int} : putK (ofs r h m num) (.inr "number" : Key) (.int x) = ofs r h m x := rfl
/-- an item of a dict with text keys is read -/
theorem dgS {H : Hp} {a : Addr} {kvs : List (Key × V)} {k : Str} {v : V} (h : H a = some (.dK kvs)) (e : valV kvs (.inr k : Key) = some v) : DGet H a (.str k) (some v) := by
  have := DGet.k (k := Sum.inr k) h
  rw [e] at this
  exact this
section
variable {P : Program} {w : World} {K : PySem.W.Frag} {mg : Str → Option Value} {base : Heap} {A : Ad}
theorem scstore : FnScope [] [] (defScope s_store) := ⟨rfl, rfl, rfl, by decide +kernel, rfl, by decide +kernel, by decide +kernel⟩
def spStore : Sp := fun vs H Q _ => vs = [] ∧ ∀ G s r h, H s = none → H r = none → H h = none → StL G s r h TT.new 0 → Kp No H G → Q (.ref s) G
theorem ok_store (T : Txt K mg A) : ∃ fd, FnOk P w K mg base CX0 1 (A.d 40) fd [] spStore ∧ Binds K fd [] [] := by
  obtain ⟨fd, F⟩ := T.store.fn
  refine ⟨fd, F.ok scstore (fun vs H Q E h => ?_) (fun cdv Ar outer s H vs Q E hr h => ?_), F.binds fun _ _ _ _ _ _ us hl => match us, hl with | [], _ => rfl⟩
  · obtain ⟨rfl, _⟩ := h
    rfl
  · obtain ⟨rfl, k⟩ := h
    refine ⟨_, (pss_one (ps_ret (pe_disp (pps_cons pe_str pe_dnewK (pps_cons pe_str pe_dnewK (pps_cons pe_str pe_int (pps_cons pe_str pe_int pps_nil)))) (by rfl) (by rfl) (fun z => by cases z) (by decide)))), ?_⟩
    refine fun s ns r nr h nh => ?_
    obtain ⟨a1, nr'⟩ := upd_none nr
    obtain ⟨b1, nh'⟩ := upd_none nh
    obtain ⟨b2, nh'⟩ := upd_none nh'
    refine ⟨by rw [upd_ne b2.symm, upd_ne a1.symm, upd_same], ofs r h 0 0, rfl, by show 4 ≤ 15; decide, ?_⟩
    have e0 : mergeK [] (ofs r h 0 0) = ofs r h 0 0 := rfl
    rw [e0]
    refine k _ s r h ns nr' nh' ⟨upd_same, ⟨[], ?_, Nat.le_refl _, fun j => rfl⟩, ⟨[], ?_, Nat.le_refl _, ⟨⟨[], rfl, .nil⟩, fun _ z => absurd rfl z⟩, fun j => rfl⟩, a1.symm, b2.symm, b1.symm, ⟨[], ?_, [], rfl, .nil, fun _ z => nomatch z⟩⟩ ?_
    · rw [upd_ne a1, upd_ne b1.symm, upd_same]
    · rw [upd_ne b2, upd_same]
    · rw [upd_ne a1, upd_ne b1.symm, upd_same]
    · have kd : Kp (fun b => b = s) H _ := ((Kp.new (o := .dK []) ns).andN (o' := .dK []) nr).andN (o' := .dK []) nh
      exact kp_fresh (kd.andD (by rw [upd_ne b2.symm, upd_ne a1.symm, upd_same]) rfl) fun b z => by rw [z]; exact ns
theorem scseen : FnScope ["_law_store_here", "_law_key", "_law_row_here"] ["_law_store_here", "_law_key"] (defScope s_seen) := ⟨rfl, rfl, rfl, by decide +kernel, rfl, by decide +kernel, by decide +kernel⟩
def spSeen : Sp := fun vs H Q _ => ∃ (s r h : Addr) (j : Int) (t : TT) (n : Nat), vs = [.ref s, .int j] ∧ StL H s r h t n ∧ ∀ G, Kp No H G → Q (oV (seen t.mom t.rows j)) G
theorem ok_seen (T : Txt K mg A) : ∃ fd, FnOk P w K mg base CX0 1 (A.d 42) fd ["_law_store_here", "_law_key"] spSeen ∧ Binds K fd ["_law_store_here", "_law_key"] [] := by
  obtain ⟨fd, F⟩ := T.seen.fn
  refine ⟨fd, F.ok scseen (fun vs H Q E h => ?_) (fun cdv Ar outer s0 H vs Q E hr h => ?_), F.binds fun _ _ _ _ _ _ us hl => match us, hl with | [_, _], _ => rfl⟩
  · obtain ⟨s, r, h, j, t, n, rfl, _⟩ := h
    rfl
  · obtain ⟨s, r, h, j, t, n, rfl, S, k⟩ := h
    have hu := hu_of hr
    refine ⟨_, (pss_cons (ps_set (i := 2) scseen.nd rfl (Or.inl rfl) (pe_dget2 hu (pe_dget hu (pv 0) pe_str (fun _ _ => rfl)) (pv 1) (pe_tup (pa_cons pe_non (pa_cons pe_int pa_nil))) ⟨rfl, rfl, rfl, rfl⟩))
      (pss_one (ps_ret (pe_ifExp (PW.pt (pw_or (pt_cmpR op_eq (pe_ix ix_tup (pv 2) pe_int (fun _ _ => rfl)) pe_int (nomark _)) (pw_or1 (pt_cmpR op_gt (pe_ix ix_tup (pv 2) pe_int (fun _ _ => rfl)) (pe_dget hu (pv 0) pe_str (fun _ _ => rfl)) (nomark _))))) (pe_ix ix_tup (pv 2) pe_int (fun _ _ => rfl)) pe_non)))), ?_⟩
    obtain ⟨kvs, hd, hl, hf⟩ := S.rows
    refine ⟨_, rfl, s, _, rfl, dgS S.dc o_rows, r, rfl, .inl ⟨kvs, .inl hd⟩, _, rfl, sz 2 (by decide), fun u nu => ?_⟩
    have ku : Kp No H (upd H u (.tup [.non, .int 0])) := Kp.new nu
    have hd2 := (upd_ne (o := .tup [V.non, .int 0]) (ne_of_none hd nu)).trans hd
    have hs2 := (upd_ne (o := .tup [V.non, .int 0]) (ne_of_none S.dc nu)).trans S.dc
    have q := hf j
    have kk := k _ ku
    unfold seen at kk
    refine ⟨_, DGet.k (k := Sum.inl j) hd2, ?_⟩
    cases e : t.rows j with
    | none =>
      rw [e] at q kk
      rw [q]
      refine ⟨_, rfl, u, _, 1, _, rfl, rfl, SqT.of upd_same, rfl, rfl, _, rfl, iteT (iteT ?_)⟩
      exact ⟨_, rfl, u, _, 0, _, rfl, rfl, SqT.of upd_same, rfl, kk⟩
    | some p =>
      obtain ⟨wt, en⟩ := p
      rw [e] at q kk
      obtain ⟨t1, q1, q2⟩ := q
      rw [q1]
      have ht := (upd_ne (o := .tup [V.non, .int 0]) (ne_of_none q2 nu)).trans q2
      have kk : Q (oV (if shB en t.mom = true then some wt else none)) _ := kk
      unfold shB at kk
      refine ⟨_, rfl, t1, _, 1, _, rfl, rfl, SqT.of ht, rfl, rfl, _, rfl, ?_⟩
      have yes : ∀ G, G = upd H u (.tup [V.non, .int 0]) → Q (oV (some wt)) G → tRet (tOp (rIxT K) (tVar 2) (tC (.int 0))) { nx := fun _ G => Q .non G, rt := Q } [some (.ref s), some (.int j), some (.ref t1)] G := fun G e q => by
        subst e
        exact ⟨_, rfl, t1, _, 0, _, rfl, rfl, SqT.of ht, rfl, q⟩
      by_cases h1 : en = 0
      · have : decide (V.int en = V.int 0) = true := by rw [h1]; rfl
        rw [this]
        rw [decide_eq_true h1, Bool.true_or, if_pos rfl] at kk
        exact iteT (iteT (yes _ rfl kk))
      · have : decide (V.int en = V.int 0) = false := by simpa using h1
        rw [this]
        rw [decide_eq_false h1, Bool.false_or] at kk
        refine iteF ⟨_, rfl, t1, _, 1, _, rfl, rfl, SqT.of ht, rfl, _, rfl, s, _, rfl, dgS hs2 o_moment, _, _, rfl, rfl, _, rfl, ?_⟩
        by_cases h2 : t.mom < en
        · rw [decide_eq_true h2, if_pos rfl] at kk
          rw [decide_eq_true h2]
          exact iteT (yes _ rfl kk)
        · rw [decide_eq_false h2] at kk
          rw [decide_eq_false h2]
          exact iteF kk
end
end S02

set_option Elab.async false
set_option linter.all false
set_option maxRecDepth 100000
set_option maxHeartbeats 2000000
namespace S02
open PySem PySem.Spec PyProof.Rows L2 K5 SupX GenX
section
variable {P : Program} {w : World} {K : PySem.W.Frag} {mg : Str → Option Value} {base : Heap} {A : Ad}
theorem scagain : FnScope ["_law_store_here", "_law_found"] ["_law_store_here"] (defScope s_again) := ⟨rfl, rfl, rfl, by decide +kernel, rfl, by decide +kernel, by decide +kernel⟩
def spAgain : Sp := fun vs H Q _ => ∃ (s r h : Addr) (t : TT) (n : Nat), vs = [.ref s] ∧ StL H s r h t n ∧ ∀ G s' r' h', H s' = none → H r' = none → H h' = none → StL G s' r' h' t n → Kp No H G → Q (.ref s') G
theorem ok_again (T : Txt K mg A) : ∃ fd, FnOk P w K mg base CX0 1 (A.d 41) fd ["_law_store_here"] spAgain ∧ Binds K fd ["_law_store_here"] [] := by
  obtain ⟨fd, F⟩ := T.again.fn
  refine ⟨fd, F.ok scagain (fun vs H Q E h => ?_) (fun cdv Ar outer s0 H vs Q E hr h => ?_), F.binds fun _ _ _ _ _ _ us hl => match us, hl with | [_], _ => rfl⟩
  · obtain ⟨s, r, h, t, n, rfl, _⟩ := h
    rfl
  · obtain ⟨s, r, h, t, n, rfl, S, k⟩ := h
    have hu := hu_of hr
    refine ⟨_, (pss_cons (ps_set (i := 1) scagain.nd rfl (Or.inl rfl) (pe_disp (pps_cons pe_str (pe_callTy call_dictD (by rfl) T.dict (by decide +kernel) (pa_cons (pe_dget hu (pv 0) pe_str (fun _ _ => rfl)) pa_nil)) (pps_cons pe_str (pe_callTy call_dictD (by rfl) T.dict (by decide +kernel) (pa_cons (pe_dget hu (pv 0) pe_str (fun _ _ => rfl)) pa_nil)) pps_nil)) (by rfl) (by rfl) (fun z => by cases z) (by decide)))
      (pss_cons (ps_expr (pe_bm PySem.F.plainAttrs_dict PySem.F.slot_dict_update PySem.F.type_dict_update (mt_updP rfl) (pv 1) (pa_cons (pe_lst (pa_cons (pe_tup (pa_cons pe_str (pa_cons (pe_dget hu (pv 0) pe_str (fun _ _ => rfl)) pa_nil))) (pa_cons (pe_tup (pa_cons pe_str (pa_cons (pe_dget hu (pv 0) pe_str (fun _ _ => rfl)) pa_nil))) pa_nil))) pa_nil)))
      (pss_one (ps_ret (pv 1))))), ?_⟩
    obtain ⟨kr, hdr⟩ := S.rows.dc
    obtain ⟨kh, hdh⟩ := S.hands.dc
    refine fun d nd => ?_
    have k1 : Kp No H (upd H d (.dK [])) := Kp.new nd
    have ks1 := k1.t.dK S.dc fun z => z
    have kr1 := k1.t.dK hdr fun z => z
    refine ⟨_, rfl, s, _, rfl, dgS ks1 o_rows, r, kr, rfl, .inl kr1, fun r' nr => ?_⟩
    have k2 := k1.andN (o' := .dK kr) nr
    refine ⟨_, rfl, s, _, rfl, dgS (k2.t.dK S.dc fun z => z) o_hands, h, kh, rfl, .inl (k2.t.dK hdh fun z => z), fun h' nh => ?_⟩
    have k3 := k2.andN (o' := .dK kh) nh
    obtain ⟨a1, nr'⟩ := upd_none nr
    obtain ⟨b1, nh'⟩ := upd_none nh
    obtain ⟨b2, nh'⟩ := upd_none nh'
    have hd3 : upd (upd (upd H d (.dK [])) r' (.dK kr)) h' (.dK kh) d = some (.dK []) := by rw [upd_ne b2.symm, upd_ne a1.symm, upd_same]
    refine ⟨hd3, [(.inr "rows", .ref r'), (.inr "hands", .ref h')], rfl, by show 2 ≤ 15; decide, ?_⟩
    have e0 : mergeK [] [((.inr "rows" : Key), V.ref r'), (.inr "hands", .ref h')] = [(.inr "rows", .ref r'), (.inr "hands", .ref h')] := rfl
    rw [e0]
    have kd : Kp (fun b => b = d) H (upd (upd (upd H d (.dK [])) r' (.dK kr)) h' (.dK kh)) := (((Kp.new (o := .dK []) nd).andN (o' := .dK kr) nr).andN (o' := .dK kh) nh)
    have kd4 : Kp (fun b => b = d) H (upd (upd (upd (upd H d (.dK [])) r' (.dK kr)) h' (.dK kh)) d (.dK [(.inr "rows", .ref r'), (.inr "hands", .ref h')])) := kd.andD hd3 rfl
    have k4 : Kp No H _ := kp_fresh kd4 fun b z => by rw [z]; exact nd
    generalize hG4 : upd (upd (upd (upd H d (.dK [])) r' (.dK kr)) h' (.dK kh)) d (.dK [(.inr "rows", .ref r'), (.inr "hands", .ref h')]) = G4 at kd4 k4 ⊢
    have g4d : G4 d = some (.dK [(.inr "rows", .ref r'), (.inr "hands", .ref h')]) := by rw [← hG4, upd_same]
    have g4r : G4 r' = some (.dK kr) := by rw [← hG4, upd_ne a1, upd_ne b1.symm, upd_same]
    have g4h : G4 h' = some (.dK kh) := by rw [← hG4, upd_ne b2, upd_same]
    refine ⟨_, rfl, .inr (.inr (.inl ⟨rfl, .inl ⟨_, g4d⟩⟩)), _, rfl, s, _, rfl, dgS (k4.t.dK S.dc fun z => z) o_moment, sz 2 (by decide), fun p1 n1 => ?_⟩
    have k5 := k4.andN (o' := .tup [.str "moment", .int t.mom]) n1
    refine ⟨_, rfl, s, _, rfl, dgS (k5.t.dK S.dc fun z => z) o_number, sz 2 (by decide), fun p2 n2 => ?_⟩
    have k6 := k5.andN (o' := .tup [.str "number", .int t.num]) n2
    refine ⟨sz 2 (by decide), fun l nl => ?_⟩
    have q4 : Kp No G4 (upd (upd (upd G4 p1 (.tup [.str "moment", .int t.mom])) p2 (.tup [.str "number", .int t.num])) l (.lst [.ref p1, .ref p2])) := ((Kp.new n1).andN n2).andN nl
    have g7d := q4.t.dK g4d fun z => z
    obtain ⟨c1, _⟩ := upd_none n2
    obtain ⟨c2, nl2⟩ := upd_none nl
    obtain ⟨c3, _⟩ := upd_none nl2
    refine ⟨d, l, [p1, p2], [(.inr "rows", .ref r'), (.inr "hands", .ref h')], [(.inr "moment", .int t.mom), (.inr "number", .int t.num)], rfl, rfl, g7d, SqL.of upd_same, .cons (SqT.of (by rw [upd_ne c3.symm, upd_ne c1.symm, upd_same]; rfl)) (.cons (SqT.of (by rw [upd_ne c2.symm, upd_same]; rfl)) .nil), sz 4 (by decide), ?_⟩
    have e1 : mergeK [((.inr "rows" : Key), V.ref r'), (.inr "hands", .ref h')] [(.inr "moment", .int t.mom), (.inr "number", .int t.num)] = ofs r' h' t.mom t.num := rfl
    rw [e1]
    have k7 : Kp (fun b => b = d) H _ := (kd4.trans (F' := No) q4 fun _ z => False.elim z).andD (o' := .dK (ofs r' h' t.mom t.num)) g7d rfl
    have k8 : Kp No H _ := kp_fresh k7 fun b z => by rw [z]; exact nd
    have g8r : upd (upd (upd (upd G4 p1 (.tup [.str "moment", .int t.mom])) p2 (.tup [.str "number", .int t.num])) l (.lst [.ref p1, .ref p2])) d (.dK (ofs r' h' t.mom t.num)) r' = some (.dK kr) := by rw [upd_ne a1]; exact q4.t.dK g4r fun z => z
    have g8h : upd (upd (upd (upd G4 p1 (.tup [.str "moment", .int t.mom])) p2 (.tup [.str "number", .int t.num])) l (.lst [.ref p1, .ref p2])) d (.dK (ofs r' h' t.mom t.num)) h' = some (.dK kh) := by rw [upd_ne b2]; exact q4.t.dK g4h fun z => z
    exact ⟨_, rfl, k _ d r' h' nd nr' nh' ⟨upd_same, S.rows.copy hdr g8r k8.t, S.hands.copy hdh g8h k8.t, a1.symm, b2.symm, b1.symm, S.rk.copy hdr g8r⟩ k8⟩
end
end S02

set_option Elab.async false
set_option linter.all false
set_option maxRecDepth 100000
set_option maxHeartbeats 2000000
namespace S02
open PySem PySem.Spec PyProof.Rows L2 K5 SupX GenX
theorem pickM {α : Type} (f : α → V) (l : List α) {r : Int} (h0 : 0 ≤ r) (h1 : r < l.length) : ∃ a, a ∈ l ∧ atI (l.map f) r = some (f a) := by
  have hl : r.toNat < l.length := by omega
  refine ⟨l[r.toNat], List.getElem_mem _, ?_⟩
  unfold atI
  rw [ixN_in h0 (by rw [List.length_map]; exact h1)]
  show (l.map f)[r.toNat]? = _
  rw [List.getElem?_map, List.getElem?_eq_getElem hl]
  rfl
theorem box_nf {H : Hp} {bx bi : Addr} (B : BoxAt H bx bi) {p : Addr → Prop} : ∀ b kvs, H b = some (.dK kvs) → p b → ¬ bF bx bi b := fun b kvs e _ z => by
  obtain ⟨ns, st, h1, h2, _⟩ := B.ex
  rcases z with z | z
  · rw [z, h1] at e; cases e
  · rw [z, h2] at e; cases e
theorem BoxAt.no {H G : Hp} {bx bi : Addr} (B : BoxAt H bx bi) (k : Kp No H G) : BoxAt G bx bi := B.kt k.t fun _ z => False.elim z
theorem BoxAt.new {H : Hp} {bx bi p : Addr} {o : HO} (B : BoxAt H bx bi) (n : H p = none) : BoxAt (upd H p o) bx bi := B.no (Kp.new n)
theorem new_nb {H : Hp} {bx bi p : Addr} (B : BoxAt H bx bi) (n : H p = none) : ¬ bF bx bi p := fun z => by
  obtain ⟨ns, st, h1, h2, _⟩ := B.ex
  rcases z with z | z
  · rw [z, h1] at n; cases n
  · rw [z, h2] at n; cases n
/-- a list that was made ahead of a draw is read behind it -/
theorem pickL {K : PySem.W.Frag} {H G : Hp} {bx bi p : Addr} {α : Type} (f : α → V) (l : List α) {r : Int} (B : BoxAt H bx bi) (n : H p = none) (k : Kp (bF bx bi) (upd H p (.lst (l.map f))) G) (h0 : 0 ≤ r) (h1 : r < l.length) :
    ∃ a, a ∈ l ∧ SqL K G p (l.map f) ∧ atI (l.map f) r = some (f a) := by
  obtain ⟨a, ha, e⟩ := pickM f l h0 h1
  exact ⟨a, ha, SqL.of (k.t.lst upd_same (new_nb B n)), e⟩
def RowsOk (f : Rw) : Prop := ∀ k w e, f k = some (w, e) → inB 0 999 w = true
theorem seen_ok {f : Rw} (h : RowsOk f) (m j : Int) : okW (seen m f j) = true := by
  unfold seen
  cases e : f j with
  | none => rfl
  | some p =>
    obtain ⟨wt, en⟩ := p
    show okW (if shB en m = true then some wt else none) = true
    split
    · exact h j wt en e
    · rfl
theorem rows_set {f : Rw} {j wt e : Int} (h : RowsOk f) (hw : inB 0 999 wt = true) : RowsOk (f.set j (some (wt, e))) := fun k w' e' q => by
  unfold Rw.set at q
  split at q
  · cases q
    exact hw
  · exact h k w' e' q
theorem rows_step {m : Int} {f g : Rw} {d : Dd} (h : RowsOk f) (hd : d.ok = true) (s : step m f d = some g) : RowsOk g := by
  cases d with
  | put j wt l =>
    cases s
    simp only [Dd.ok, Bool.and_eq_true] at hd
    exact rows_set h hd.2.1
  | drop j =>
    cases s
    intro k w' e' q
    unfold Rw.set at q
    split at q
    · cases q
    · exact h k w' e' q
  | add j x =>
    simp only [step] at s
    cases e : f j with
    | none => rw [e] at s; cases s
    | some p =>
      obtain ⟨wt, en⟩ := p
      rw [e] at s
      simp only at s
      split at s
      · rename_i q
        cases s
        exact rows_set h q.2
      · cases s
  | iff j x =>
    simp only [step] at s
    split at s
    · cases s
      exact h
    · cases s
theorem rows_steps {m : Int} : ∀ {ds : List Dd} {f g : Rw}, RowsOk f → (∀ d ∈ ds, d.ok = true) → steps m f ds = some g → RowsOk g
  | [], _, _, h, _, s => by
    cases s
    exact h
  | d :: ds, f, g, h, hd, s => by
    unfold steps at s
    cases q : step m f d with
    | none => rw [q] at s; cases s
    | some f2 =>
      rw [q] at s
      exact rows_steps (rows_step h (hd d List.mem_cons_self) q) (fun e he => hd e (List.mem_cons_of_mem _ he)) s
section
variable {P : Program} {w : World} {K : PySem.W.Frag} {mg : Str → Option Value} {base : Heap} {A : Ad}
theorem scdeed : FnScope ["_law_box", "_law_store_here", "_law_key", "_law_worth", "_law_way", "_law_life"] ["_law_box", "_law_store_here"] (defScope s_deed) := ⟨rfl, rfl, rfl, by decide +kernel, rfl, by decide +kernel, by decide +kernel⟩
def spDeedL : Sp := fun vs H Q _ => ∃ (bx bi s r h : Addr) (t : TT) (n : Nat), vs = [.ref bx, .ref s] ∧ BoxAt H bx bi ∧ StL H s r h t n ∧ RowsOk t.rows ∧
  ∀ G v d, BoxAt G bx bi → Kp (bF bx bi) H G → DdAt G v d → d.ok = true → Q v G
theorem ok_deed (T : Txt K mg A) : ∃ fd, FnOk P w K mg base CX0 2 (A.d 46) fd ["_law_box", "_law_store_here"] spDeedL ∧ Binds K fd ["_law_box", "_law_store_here"] [] := by
  obtain ⟨fd, F⟩ := T.deed.fn
  obtain ⟨fdT, Gtake, btake⟩ := ok_take (P := P) (w := w) (base := base) T
  obtain ⟨fdS, Gseen, bseen⟩ := ok_seen (P := P) (w := w) (base := base) T
  refine ⟨fd, F.ok scdeed (fun vs H Q E h => ?_) (fun cdv Ar outer s0 H vs Q E hr h => ?_), F.binds fun _ _ _ _ _ _ us hl => match us, hl with | [_, _], _ => rfl⟩
  · obtain ⟨bx, bi, s, r, h, t, n, rfl, _⟩ := h
    rfl
  · obtain ⟨bx, bi, s, r, h, t, n, rfl, B, S, ok, k⟩ := h
    have hu := hu_of hr
    refine ⟨_, (pss_cons (ps_set (i := 2) scdeed.nd rfl (Or.inl rfl) (pe_call Gtake (hr.mono (by first | decide | omega)) rfl T.take.at_ T.take.kp btake .nil pass0 (pa_cons (pv 0) (pa_cons (pe_ix ix_list (pe_lst (pa_cons pe_int (pa_cons pe_int (pa_cons pe_int pa_nil)))) (pe_call Gtake (hr.mono (by first | decide | omega)) rfl T.take.at_ T.take.kp btake .nil pass0 (pa_cons (pv 0) (pa_cons pe_int pa_nil))) (fun _ _ => rfl)) pa_nil))))
      (pss_cons (ps_set (i := 3) scdeed.nd rfl (Or.inl rfl) (pe_call Gseen (hr.mono (by first | decide | omega)) rfl T.seen.at_ T.seen.kp bseen .nil pass0 (pa_cons (pv 1) (pa_cons (pv 2) pa_nil))))
      (pss_cons (ps_set (i := 4) scdeed.nd rfl (Or.inl rfl) (pe_call Gtake (hr.mono (by first | decide | omega)) rfl T.take.at_ T.take.kp btake .nil pass0 (pa_cons (pv 0) (pa_cons pe_int pa_nil))))
      (pss_cons (ps_if (pt_cmpR op_lt (pv 4) pe_int (nomark _))
        (pss_cons (ps_set (i := 5) scdeed.nd rfl (Or.inl rfl) (pe_ix ix_list (pe_lst (pa_cons pe_int (pa_cons (pe_op op_add pe_int (pe_call Gtake (hr.mono (by first | decide | omega)) rfl T.take.at_ T.take.kp btake .nil pass0 (pa_cons (pv 0) (pa_cons pe_int pa_nil)))) (pa_cons (pe_op op_add pe_int (pe_call Gtake (hr.mono (by first | decide | omega)) rfl T.take.at_ T.take.kp btake .nil pass0 (pa_cons (pv 0) (pa_cons pe_int pa_nil)))) pa_nil)))) (pe_call Gtake (hr.mono (by first | decide | omega)) rfl T.take.at_ T.take.kp btake .nil pass0 (pa_cons (pv 0) (pa_cons pe_int pa_nil))) (fun _ _ => rfl)))
        (pss_one (ps_ret (pe_tup (pa_cons pe_str (pa_cons (pv 2) (pa_cons (pe_ix ix_list (pe_lst (pa_cons (pe_call Gtake (hr.mono (by first | decide | omega)) rfl T.take.at_ T.take.kp btake .nil pass0 (pa_cons (pv 0) (pa_cons pe_int pa_nil))) (pa_cons pe_int (pa_cons pe_int pa_nil)))) (pe_call Gtake (hr.mono (by first | decide | omega)) rfl T.take.at_ T.take.kp btake .nil pass0 (pa_cons (pv 0) (pa_cons pe_int pa_nil))) (fun _ _ => rfl)) (pa_cons (pv 5) pa_nil))))))))
        pss_nil)
      (pss_cons (ps_if (pt_cmpR op_eq (pv 4) pe_int (nomark _))
        (pss_one (ps_ret (pe_tup (pa_cons pe_str (pa_cons (pv 2) pa_nil)))))
        pss_nil)
      (pss_cons (ps_if (pt_cmpR op_lt (pv 4) pe_int (nomark _))
        (pss_one (ps_ret (pe_tup (pa_cons pe_str (pa_cons (pv 2) (pa_cons (pe_ix ix_list (pe_lst (pa_cons (pe_op op_sub (pe_call Gtake (hr.mono (by first | decide | omega)) rfl T.take.at_ T.take.kp btake .nil pass0 (pa_cons (pv 0) (pa_cons pe_int pa_nil))) pe_int) (pa_cons (pe_op op_sub (pe_call Gtake (hr.mono (by first | decide | omega)) rfl T.take.at_ T.take.kp btake .nil pass0 (pa_cons (pv 0) (pa_cons pe_int pa_nil))) pe_int) pa_nil))) (pe_call Gtake (hr.mono (by first | decide | omega)) rfl T.take.at_ T.take.kp btake .nil pass0 (pa_cons (pv 0) (pa_cons pe_int pa_nil))) (fun _ _ => rfl)) pa_nil))))))
        pss_nil)
      (pss_one (ps_ret (pe_tup (pa_cons pe_str (pa_cons (pv 2) (pa_cons (pe_ix ix_list (pe_lst (pa_cons (pv 3) (pa_cons (pv 3) (pa_cons (pv 3) (pa_cons pe_non (pa_cons (pe_call Gtake (hr.mono (by first | decide | omega)) rfl T.take.at_ T.take.kp btake .nil pass0 (pa_cons (pv 0) (pa_cons pe_int pa_nil))) pa_nil)))))) (pe_call Gtake (hr.mono (by first | decide | omega)) rfl T.take.at_ T.take.kp btake .nil pass0 (pa_cons (pv 0) (pa_cons pe_int pa_nil))) (fun _ _ => rfl)) pa_nil)))))))))))), ?_⟩
    have big : ∀ m : Int, 0 < m → m ≤ 2000 → m.natAbs < 2 ^ 90 := fun m h1 h2 => Nat.lt_of_le_of_lt (by omega : m.natAbs ≤ 2000) (by decide)
    -- the key
    refine ⟨_, rfl, sz 3 (by decide), fun p1 n1 => ⟨_, rfl, bx, bi, 3, rfl, B.new n1, by decide, by decide, fun r1 G1 a1 b1 B1 k1 => ?_⟩⟩
    obtain ⟨m1, hm1, e1⟩ := pickM V.int [2, 6, 32] a1 b1
    have g1 : 2 ≤ m1 ∧ m1 ≤ 32 := by
      simp only [List.mem_cons, List.not_mem_nil, or_false] at hm1
      omega
    have l1 : upd H p1 (.lst [.int 2, .int 6, .int 32]) p1 = some (.lst [.int 2, .int 6, .int 32]) := upd_same
    have nb1 : ¬ bF bx bi p1 := fun z => by
      obtain ⟨ns, st, h1, h2, _⟩ := B.ex
      rcases z with z | z
      · rw [z, h1] at n1; cases n1
      · rw [z, h2] at n1; cases n1
    refine ⟨p1, _, r1, .int m1, rfl, rfl, SqL.of (k1.t.lst l1 nb1), e1, bx, bi, m1, rfl, B1, by omega, big m1 (by omega) (by omega), fun key G2 a2 b2 B2 k2 => ?_⟩
    have K2 : Kp (bF bx bi) H G2 := ((Kp.new n1).trans k1 fun _ z => .inl z).trans k2 fun _ z => .inl z
    -- the worth
    refine ⟨_, rfl, _, rfl, s, r, h, key, t, n, rfl, S.kt K2.t (box_nf B), fun G3 k3 => ?_⟩
    have K3 : Kp (bF bx bi) H G3 := K2.trans k3 fun _ z => False.elim z
    have B3 := B2.no k3
    have okw := seen_ok ok t.mom key
    generalize seen t.mom t.rows key = x at okw ⊢
    -- the way
    refine ⟨_, rfl, bx, bi, 10, rfl, B3, by decide, by decide, fun way G4 a4 b4 B4 k4 => ?_⟩
    have K4 : Kp (bF bx bi) H G4 := K3.trans k4 fun _ z => .inl z
    refine ⟨_, rfl, _, _, rfl, rfl, _, rfl, ite2 (fun w5 => ?_) (fun w5 => ?_)⟩
    · -- a put
      refine ⟨_, rfl, bx, bi, 9, rfl, B4, by decide, by decide, fun x1 G5 a5 b5 B5 k5 => ⟨_, _, rfl, rfl, ?_⟩⟩
      refine ⟨_, rfl, bx, bi, 1000, rfl, B5, by decide, by decide, fun x2 G6 a6 b6 B6 k6 => ⟨_, _, rfl, rfl, sz 3 (by decide), fun p2 n2 => ?_⟩⟩
      refine ⟨_, rfl, bx, bi, 3, rfl, B6.new n2, by decide, by decide, fun r2 G7 a7 b7 B7 k7 => ?_⟩
      obtain ⟨l, hl, sl, el⟩ := pickL (K := K) V.int [0, 1 + x1, 1 + x2] B6 n2 k7 a7 b7
      have hl2 : 0 ≤ l ∧ l ≤ 1000 := by
        simp only [List.mem_cons, List.not_mem_nil, or_false] at hl
        omega
      have K7 : Kp (bF bx bi) H G7 := ((((K4.trans k5 fun _ z => .inl z).trans k6 fun _ z => .inl z).andN n2).trans k7 fun _ z => .inl z)
      refine ⟨p2, _, r2, .int l, rfl, rfl, sl, el, ?_⟩
      refine ⟨_, rfl, _, rfl, bx, bi, 1000, rfl, B7, by decide, by decide, fun x3 G8 a8 b8 B8 k8 => ⟨sz 3 (by decide), fun p3 n3 => ?_⟩⟩
      refine ⟨_, rfl, bx, bi, 3, rfl, B8.new n3, by decide, by decide, fun r3 G9 a9 b9 B9 k9 => ?_⟩
      obtain ⟨wt, hwt, sw, ew⟩ := pickL (K := K) V.int [x3, 999, 0] B8 n3 k9 a9 b9
      have hw2 : 0 ≤ wt ∧ wt ≤ 999 := by
        simp only [List.mem_cons, List.not_mem_nil, or_false] at hwt
        omega
      have K9 : Kp (bF bx bi) H G9 := ((K7.trans k8 fun _ z => .inl z).andN n3).trans k9 fun _ z => .inl z
      refine ⟨p3, _, r3, .int wt, rfl, rfl, sw, ew, _, rfl, sz 4 (by decide), fun u nu => ?_⟩
      exact k _ _ (.put key wt l) (B9.new nu) (K9.andN nu) ⟨u, rfl, upd_same⟩ (by simp only [Dd.ok, Bool.and_eq_true, inB_t]; omega)
    · refine ⟨_, rfl, rfl, _, rfl, ite2 (fun w6 => ?_) (fun w6 => ?_)⟩
      · -- a drop
        refine ⟨_, rfl, sz 2 (by decide), fun u nu => ?_⟩
        exact k _ _ (.drop key) (B4.new nu) (K4.andN nu) ⟨u, rfl, upd_same⟩ (by simp only [Dd.ok, inB_t]; omega)
      · refine ⟨_, rfl, _, _, rfl, rfl, _, rfl, ite2 (fun w8 => ?_) (fun w8 => ?_)⟩
        · -- an add
          refine ⟨_, rfl, _, rfl, bx, bi, 9, rfl, B4, by decide, by decide, fun x1 G5 a5 b5 B5 k5 => ⟨_, _, rfl, rfl, ?_⟩⟩
          refine ⟨_, rfl, bx, bi, 1999, rfl, B5, by decide, by decide, fun x2 G6 a6 b6 B6 k6 => ⟨_, _, rfl, rfl, sz 2 (by decide), fun p2 n2 => ?_⟩⟩
          refine ⟨_, rfl, bx, bi, 2, rfl, B6.new n2, by decide, by decide, fun r2 G7 a7 b7 B7 k7 => ?_⟩
          obtain ⟨l, hl, sl, el⟩ := pickL (K := K) V.int [x1 - 4, x2 - 999] B6 n2 k7 a7 b7
          have hl2 : -999 ≤ l ∧ l ≤ 999 := by
            simp only [List.mem_cons, List.not_mem_nil, or_false] at hl
            omega
          have K7 : Kp (bF bx bi) H G7 := ((((K4.trans k5 fun _ z => .inl z).trans k6 fun _ z => .inl z).andN n2).trans k7 fun _ z => .inl z)
          refine ⟨p2, _, r2, .int l, rfl, rfl, sl, el, sz 3 (by decide), fun u nu => ?_⟩
          exact k _ _ (.add key l) (B7.new nu) (K7.andN nu) ⟨u, rfl, upd_same⟩ (by simp only [Dd.ok, Bool.and_eq_true, inB_t]; omega)
        · -- an if
          refine ⟨_, rfl, _, rfl, _, rfl, _, rfl, _, rfl, bx, bi, 1000, rfl, B4, by decide, by decide, fun x1 G5 a5 b5 B5 k5 => ⟨sz 5 (by decide), fun p2 n2 => ?_⟩⟩
          refine ⟨_, rfl, bx, bi, 5, rfl, B5.new n2, by decide, by decide, fun r2 G7 a7 b7 B7 k7 => ?_⟩
          obtain ⟨y, hy, sy, ey⟩ := pickL (K := K) oV [x, x, x, none, some x1] B5 n2 k7 a7 b7
          have oky : okW y = true := by
            simp only [List.mem_cons, List.not_mem_nil, or_false] at hy
            rcases hy with rfl | rfl | rfl | rfl | rfl
            · exact okw
            · exact okw
            · exact okw
            · rfl
            · exact inB_t.mpr ⟨a5, by omega⟩
          have K7 : Kp (bF bx bi) H G7 := ((K4.trans k5 fun _ z => .inl z).andN n2).trans k7 fun _ z => .inl z
          refine ⟨p2, _, r2, oV y, rfl, rfl, sy, ey, sz 3 (by decide), fun u nu => ?_⟩
          refine k _ _ (.iff key y) (B7.new nu) (K7.andN nu) ⟨u, rfl, upd_same⟩ ?_
          have ik : inB 0 31 key = true := inB_t.mpr ⟨a2, by omega⟩
          cases y with
          | none => exact ik
          | some y =>
            show (inB 0 31 key && inB 0 999 y) = true
            rw [ik]
            exact oky
end
end S02

set_option Elab.async false
set_option linter.all false
set_option maxRecDepth 100000
set_option maxHeartbeats 2000000
namespace S02
open PySem PySem.Spec PyProof.Rows L2 K5 SupX GenX
section
variable {P : Program} {w : World} {K : PySem.W.Frag} {mg : Str → Option Value} {base : Heap} {A : Ad}
abbrev Nscdrawn : List Str := ["_law_box", "_law_store_here", "_law_turn"]
theorem scdrawn : FnScope Nscdrawn ["_law_box", "_law_store_here"] (defScope s_drawn) := ⟨rfl, rfl, rfl, by decide +kernel, rfl, by decide +kernel, by decide +kernel⟩
def spDrawn : Sp := fun vs H Q _ => ∃ (bx bi s r h : Addr) (t : TT) (n : Nat), vs = [.ref bx, .ref s] ∧ BoxAt H bx bi ∧ StL H s r h t n ∧ RowsOk t.rows ∧
  ∀ G v ds, BoxAt G bx bi → Kp (bF bx bi) H G → DsAt G v ds → (∀ d ∈ ds, d.ok = true) → 1 ≤ ds.length → ds.length ≤ 4 → Q v G
theorem ok_drawn (T : Txt K mg A) : ∃ fd, FnOk P w K mg base CX0 3 (A.d 47) fd ["_law_box", "_law_store_here"] spDrawn ∧ Binds K fd ["_law_box", "_law_store_here"] [] := by
  obtain ⟨fd, F⟩ := T.drawn.fn
  obtain ⟨fdT, Gtake, btake⟩ := ok_take (P := P) (w := w) (base := base) T
  obtain ⟨fdS, Gdeed, bdeed⟩ := ok_deed (P := P) (w := w) (base := base) T
  refine ⟨fd, F.ok scdrawn (fun vs H Q E h => ?_) (fun cdv Ar outer s0 H vs Q E hr h => ?_), F.binds fun _ _ _ _ _ _ us hl => match us, hl with | [_, _], _ => rfl⟩
  · obtain ⟨bx, bi, s, r, h, t, n, rfl, _⟩ := h
    rfl
  · obtain ⟨bx, bi, s, r, h, t, n, rfl, B, S, ok, k⟩ := h
    have hu := hu_of hr
    refine ⟨_, (pss_one (ps_ret (pe_callTy call_tuple_of (by rfl) T.tuple (by decide +kernel) (pa_cons (pe_lc (own := [("_law_turn", 2)]) (g := (gName 2)) (by rfl) scdrawn.nd (pi_range1 (by rfl) T.range (pa_cons (pe_op op_add pe_int (pe_call Gtake (hr.mono (by first | decide | omega)) rfl T.take.at_ T.take.kp btake .nil pass0 (pa_cons (pv 0) (pa_cons (pe_ix ix_list (pe_lst (pa_cons pe_int (pa_cons pe_int (pa_cons pe_int pa_nil)))) (pe_call Gtake (hr.mono (by first | decide | omega)) rfl T.take.at_ T.take.kp btake .nil pass0 (pa_cons (pv 0) (pa_cons pe_int pa_nil))) (fun _ _ => rfl)) pa_nil)))) pa_nil)) (blkOk_by (N := Nscdrawn) (sc := defScope s_drawn) (by decide +kernel)) (fun _ _ _ _ _ => pg_name (i := 2) scdrawn.nd rfl (Or.inl rfl)) (fun _ _ _ _ _ => pts_nil) (fun _ _ _ _ _ => (pe_call Gdeed (hr.mono (by first | decide | omega)) rfl T.deed.at_ T.deed.kp bdeed .nil pass0 (pa_cons (pv 0) (pa_cons (pv 1) pa_nil))))) pa_nil)))), ?_⟩
    refine ⟨_, rfl, sz 3 (by decide), fun p1 n1 => ⟨_, rfl, bx, bi, 3, rfl, B.new n1, by decide, by decide, fun r1 G1 a1 b1 B1 k1 => ?_⟩⟩
    obtain ⟨m1, hm1, s1, e1⟩ := pickL (K := K) V.int [1, 2, 4] B n1 k1 a1 b1
    have g1 : 1 ≤ m1 ∧ m1 ≤ 4 := by
      simp only [List.mem_cons, List.not_mem_nil, or_false] at hm1
      omega
    refine ⟨p1, _, r1, .int m1, rfl, rfl, s1, e1, bx, bi, m1, rfl, B1, by omega, Nat.lt_of_le_of_lt (by omega : m1.natAbs ≤ 2000) (by decide), fun c G2 a2 b2 B2 k2 => ?_⟩
    have K2 : Kp (bF bx bi) H G2 := ((Kp.new n1).trans k1 fun _ z => .inl z).trans k2 fun _ z => .inl z
    refine ⟨_, _, rfl, rfl, 1 + c, rfl, by omega, by omega, fun D nD => ?_⟩
    have KD : Kp (fun b => bF bx bi b ∨ b = D) H (upd G2 D (.lst [])) := (K2.sub fun _ z => .inl z).andN nD
    have nbD : ¬ bF bx bi D := new_nb B2 nD
    have HD : H D = none := K2.free nD fun z => absurd z nbD
    refine lc_range (lo := 0) (n := (1 + c).toNat) (fun i G => Kp (fun b => bF bx bi b ∨ b = D) H G ∧ BoxAt G bx bi ∧ ∃ acc ds, G D = some (.lst acc) ∧ Paired (DdAt G) acc ds ∧ ds.length = i ∧ ∀ d ∈ ds, d.ok = true) ⟨KD, B2.new nD, [], [], upd_same, .nil, rfl, fun _ z => by cases z⟩ ?_ ?_
    · rintro i G hi ⟨kp, BG, acc, ds, hD, pd, hl, hok⟩
      have nfS : ∀ b kvs, H b = some (.dK kvs) → (b = s ∨ b = r ∨ b = h) → ¬ (bF bx bi b ∨ b = D) := fun b kvs e pz z => by
        rcases z with z | z
        · exact box_nf B (p := fun b => b = s ∨ b = r ∨ b = h) b kvs e pz z
        · rw [z, HD] at e; cases e
      refine ⟨rfl, _, rfl, _, rfl, bx, bi, s, r, h, t, n, rfl, BG, S.kt kp.t nfS, ok, fun G3 v d B3 k3 hv hd => ?_⟩
      have hD3 : G3 D = some (.lst acc) := k3.t.lst hD nbD
      have k4 : Kp (fun b => b = D) G3 (upd G3 D (.lst (acc ++ [v]))) := Kp.updL hD3 rfl
      refine ⟨acc, hD3, szL (by rw [pd.length, hl]; omega), (kp.trans k3 fun _ z => .inl (.inl z)).trans k4 (fun b z => .inl (.inr z)), B3.kt k4.t (fun a z => by rw [z]; exact nbD), acc ++ [v], ds ++ [d], upd_same, ?_, by simp [hl], fun e he => ?_⟩
      · exact (pd.mono fun _ _ z => (z.kt k3.t).kt k4.t).snoc (hv.kt k4.t)
      · rcases List.mem_append.mp he with he | he
        · exact hok e he
        · rw [List.mem_singleton.mp he]; exact hd
    · rintro G ⟨kp, BG, acc, ds, hD, pd, hl, hok⟩
      refine ⟨D, acc, rfl, .inl ⟨SqL.of hD, fun q nq => ?_⟩⟩
      have kq : Kp No G (upd G q (.tup acc)) := Kp.new nq
      refine k _ _ ds (BG.no kq) ?_ ⟨q, acc, rfl, upd_same, pd.mono fun _ _ z => z.kt kq.t, by omega⟩ hok (by omega) (by omega)
      exact fun b o e n => (kp.andN nq) b o e fun m z => by
        rcases z with z | z
        · exact n m z
        · rw [z, HD] at e; cases e
end
end S02

set_option Elab.async false
set_option linter.all false
set_option maxRecDepth 100000
set_option maxHeartbeats 4000000
namespace S02
open PySem PySem.Spec PyProof.Rows L2 K5 SupX GenX
section
variable {P : Program} {w : World} {K : PySem.W.Frag} {mg : Str → Option Value} {base : Heap} {A : Ad}
/-! ### alike -/
theorem scalike : FnScope ["_law_found", "_law_due_here", "_law_k"] ["_law_found", "_law_due_here"] (defScope s_alike) := ⟨rfl, rfl, rfl, by decide +kernel, rfl, by decide +kernel, by decide +kernel⟩
def spAlike (n : Nat) : Sp := fun vs H Q _ => ∃ x y, vs = [x, y] ∧ Al H n x y ∧ Q (.bl true) H
theorem no_fn {CX : CXT} {f : Addr} {fd : FuncData} {ps : List Str} {k : Nat} : FnOk P w K mg base CX k f fd ps (fun _ _ _ _ => False) := ⟨fun _ _ _ _ h => h.elim, fun _ _ _ _ _ _ _ _ _ _ _ _ _ h => h.elim⟩
theorem sp_len {vs : List V} {H : Hp} {Q : VK} {E : XK} {n : Nat} (h : spAlike n vs H Q E) : vs.length = 2 := by
  obtain ⟨x, y, rfl, _⟩ := h
  rfl
theorem ok_alike (T : Txt K mg A) : ∃ fd, Binds K fd ["_law_found", "_law_due_here"] [] ∧ ∀ n, FnOk P w K mg base CX0 (n + 1) (A.d 36) fd ["_law_found", "_law_due_here"] (spAlike n) := by
  obtain ⟨fd, F⟩ := T.alike.fn
  have balike : Binds K fd ["_law_found", "_law_due_here"] [] := F.binds fun _ _ _ _ _ _ us hl => match us, hl with | [_, _], _ => rfl
  refine ⟨fd, balike, fun n => ?_⟩
  induction n with
  | zero => exact ⟨fun vs H Q E h => sp_len h, fun _ _ _ _ _ _ _ _ _ _ _ _ _ h => by obtain ⟨x, y, _, z, _⟩ := h; exact z.elim⟩
  | succ n Galike =>
    refine F.ok scalike (fun vs H Q E h => sp_len h) (fun cdv Ar outer s H vs Q E hr h => ?_)
    obtain ⟨x, y, rfl, al, k⟩ := h
    refine ⟨_, (pss_cons (ps_if (pt_cmp (pc_isN (pv 1)))
        (pss_one (ps_ret (pe_cmp (pc_isN (pv 0)))))
        pss_nil)
      (pss_cons (ps_if (pt_val (pe_callB call_isi (by rfl) T.isinstance (by decide +kernel) (pa_cons (pv 1) (pa_cons (pe_bltn (v := .ty "bool") (by rfl) T.bool (by decide +kernel) rfl) pa_nil))))
        (pss_one (ps_ret (pe_and (pe_callB call_isi (by rfl) T.isinstance (by decide +kernel) (pa_cons (pv 0) (pa_cons (pe_bltn (v := .ty "bool") (by rfl) T.bool (by decide +kernel) rfl) pa_nil))) (pe_one (pe_cmpR op_eq (pv 0) (pv 1) (nomark _))))))
        pss_nil)
      (pss_cons (ps_if (pt_val (pe_callB call_isi (by rfl) T.isinstance (by decide +kernel) (pa_cons (pv 1) (pa_cons (pe_bltn (v := .ty "int") (by rfl) T.int (by decide +kernel) rfl) pa_nil))))
        (pss_one (ps_ret (pe_and (pe_callB call_isi (by rfl) T.isinstance (by decide +kernel) (pa_cons (pv 0) (pa_cons (pe_bltn (v := .ty "int") (by rfl) T.int (by decide +kernel) rfl) pa_nil))) (pe_and (pe_not (pe_callB call_isi (by rfl) T.isinstance (by decide +kernel) (pa_cons (pv 0) (pa_cons (pe_bltn (v := .ty "bool") (by rfl) T.bool (by decide +kernel) rfl) pa_nil)))) (pe_one (pe_cmpR op_eq (pv 0) (pv 1) (nomark _)))))))
        pss_nil)
      (pss_cons (ps_if (pt_val (pe_callB call_isi (by rfl) T.isinstance (by decide +kernel) (pa_cons (pv 1) (pa_cons (pe_bltn (v := .ty "str") (by rfl) T.str (by decide +kernel) rfl) pa_nil))))
        (pss_one (ps_ret (pe_and (pe_callB call_isi (by rfl) T.isinstance (by decide +kernel) (pa_cons (pv 0) (pa_cons (pe_bltn (v := .ty "str") (by rfl) T.str (by decide +kernel) rfl) pa_nil))) (pe_one (pe_cmpR op_eq (pv 0) (pv 1) (nomark _))))))
        pss_nil)
      (pss_cons (ps_if (PW.pt (pw_or (pt_cmpR op_ne (pe_callB call_isi (by rfl) T.isinstance (by decide +kernel) (pa_cons (pv 1) (pa_cons (pe_bltn (v := .ty "tuple") (by rfl) T.tuple (by decide +kernel) rfl) pa_nil))) (pe_callB call_isi (by rfl) T.isinstance (by decide +kernel) (pa_cons (pv 0) (pa_cons (pe_bltn (v := .ty "tuple") (by rfl) T.tuple (by decide +kernel) rfl) pa_nil))) (nomark _)) (pw_or1 (pt_cmpR op_ne (pe_callB call_isi (by rfl) T.isinstance (by decide +kernel) (pa_cons (pv 1) (pa_cons (pe_bltn (v := .ty "list") (by rfl) T.list (by decide +kernel) rfl) pa_nil))) (pe_callB call_isi (by rfl) T.isinstance (by decide +kernel) (pa_cons (pv 0) (pa_cons (pe_bltn (v := .ty "list") (by rfl) T.list (by decide +kernel) rfl) pa_nil))) (nomark _)))))
        (pss_one (ps_ret pe_bl))
        pss_nil)
      (pss_cons (ps_if (pt_cmpR op_ne (pe_callB call_len_seq (by rfl) T.len PySem.boot_len (pa_cons (pv 0) pa_nil)) (pe_callB call_len_seq (by rfl) T.len PySem.boot_len (pa_cons (pv 1) pa_nil)) (nomark _))
        (pss_one (ps_ret pe_bl))
        pss_nil)
      (pss_cons (ps_for PassesOwn.never rfl (pi_range1 (by rfl) T.range (pa_cons (pe_callB call_len_seq (by rfl) T.len PySem.boot_len (pa_cons (pv 1) pa_nil)) pa_nil)) (pg_name (i := 2) scalike.nd rfl (Or.inl rfl))
        (pss_one (ps_if (pt_not (pt_val (pe_call Galike (hr.mono (by first | decide | omega)) rfl T.alike.at_ T.alike.kp balike .nil pass0 (pa_cons (pe_ix ix_seq (pv 0) (pv 2) (fun _ _ => rfl)) (pa_cons (pe_ix ix_seq (pv 1) (pv 2) (fun _ _ => rfl)) pa_nil)))))
          (pss_one (ps_ret pe_bl))
          pss_nil)))
      (pss_one (ps_ret pe_bl))))))))), ?_⟩
    have ki : ∀ {a b : String} {r : Bool}, kitB a b = some r → PySem.W.kitOne K (.type a) (.type b) = some r := fun h => h
    rcases al with ⟨lf, rfl⟩ | ⟨a, b, xs, ys, rfl, rfl, hab, hl, hyl, hal⟩
    · -- a leaf
      cases x with
      | non => exact ⟨_, rfl, _, rfl, iteT ⟨_, rfl, k⟩⟩
      | bl v =>
        refine ⟨_, rfl, _, rfl, iteF ⟨_, rfl, _, _, _, _, true, rfl, .ty "bool", .base (.bl v), by rfl, _, rfl, iteT ⟨_, rfl, _, _, _, _, true, rfl, .ty "bool", .base (.bl v), by rfl, true, rfl, iteT ⟨_, rfl, _, rfl, rfl, ?_⟩⟩⟩⟩
        rw [decide_eq_true rfl]
        exact k
      | int v =>
        refine ⟨_, rfl, _, rfl, iteF ⟨_, rfl, _, _, _, _, false, rfl, .ty "bool", .base (.int v), by rfl, _, rfl, iteF ⟨_, rfl, _, _, _, _, true, rfl, .ty "int", .base (.int v), by rfl, _, rfl, iteT ?_⟩⟩⟩
        refine ⟨_, rfl, _, _, _, _, true, rfl, .ty "int", .base (.int v), by rfl, true, rfl, iteT ⟨_, rfl, _, _, _, _, false, rfl, .ty "bool", .base (.int v), by rfl, false, rfl, true, rfl, iteT ⟨_, rfl, _, rfl, rfl, ?_⟩⟩⟩
        rw [decide_eq_true rfl]
        exact k
      | str v =>
        refine ⟨_, rfl, _, rfl, iteF ⟨_, rfl, _, _, _, _, false, rfl, .ty "bool", .base (.str v), by rfl, _, rfl, iteF ⟨_, rfl, _, _, _, _, false, rfl, .ty "int", .base (.str v), by rfl, _, rfl, iteF ⟨_, rfl, _, _, _, _, true, rfl, .ty "str", .base (.str v), by rfl, _, rfl, iteT ?_⟩⟩⟩⟩
        refine ⟨_, rfl, _, _, _, _, true, rfl, .ty "str", .base (.str v), by rfl, true, rfl, iteT ⟨_, rfl, _, rfl, rfl, ?_⟩⟩
        rw [decide_eq_true rfl]
        exact k
      | byt _ => cases lf
      | flt _ => cases lf
      | ref _ => cases lf
      | ty _ => cases lf
    · -- tuples or lists
      have hbig : (ys.length : Int) < 2 ^ 62 := hyl
      rcases hab with ⟨ha, hb⟩ | ⟨ha, hb⟩
      · have ta : TyX K H (.ref a) (.type "tuple") := .base (.tup ha)
        have tb : TyX K H (.ref b) (.type "tuple") := .base (.tup hb)
        refine ⟨_, rfl, _, rfl, iteF ⟨_, rfl, _, _, _, _, false, rfl, .ty "bool", tb, by rfl, _, rfl, iteF ⟨_, rfl, _, _, _, _, false, rfl, .ty "int", tb, by rfl, _, rfl, iteF ⟨_, rfl, _, _, _, _, false, rfl, .ty "str", tb, by rfl, _, rfl, iteF ?_⟩⟩⟩⟩
        refine ⟨_, rfl, _, _, _, _, true, rfl, .ty "tuple", tb, by rfl, _, rfl, _, _, _, _, true, rfl, .ty "tuple", ta, by rfl, rfl, false, by rfl, iteF ?_⟩
        refine ⟨_, rfl, _, _, _, _, false, rfl, .ty "list", tb, by rfl, _, rfl, _, _, _, _, false, rfl, .ty "list", ta, by rfl, rfl, false, by rfl, iteF ?_⟩
        refine ⟨_, rfl, a, xs, rfl, .inr (SqT.of ha), _, rfl, b, ys, rfl, .inr (SqT.of hb), rfl, false, ?_, iteF ?_⟩
        · rw [hl, decide_eq_true rfl]
          rfl
        refine ⟨_, rfl, b, ys, rfl, .inr (SqT.of hb), (ys.length : Int), rfl, by omega, hbig, for_range (lo := 0) (n := (ys.length : Int).toNat) (fun i σ G => G = H ∧ ∃ o, σ = [some (.ref a), some (.ref b), o]) ⟨rfl, none, rfl⟩ ?_ ?_⟩
        · rintro i σ G hi ⟨rfl, o, rfl⟩
          rw [Int.toNat_natCast] at hi
          have hx : xs[i]? = some xs[i] := List.getElem?_eq_getElem (by omega)
          have hy : ys[i]? = some ys[i] := List.getElem?_eq_getElem hi
          refine ⟨_, rfl, _, rfl, Or.inr (Or.inl ⟨a, xs, ((0 : Int) + i), xs[i], rfl, rfl, SqT.of ha, by rw [Int.zero_add]; exact atI_nat hx, ?_⟩)⟩
          refine ⟨_, rfl, _, rfl, Or.inr (Or.inl ⟨b, ys, ((0 : Int) + i), ys[i], rfl, rfl, SqT.of hb, by rw [Int.zero_add]; exact atI_nat hy, ?_⟩)⟩
          exact ⟨_, _, rfl, hal i _ _ hx hy, true, rfl, iteF ⟨rfl, _, rfl⟩⟩
        · rintro σ G ⟨rfl, o, rfl⟩
          exact k
      · have ta : TyX K H (.ref a) (.type "list") := .base (.lst ha)
        have tb : TyX K H (.ref b) (.type "list") := .base (.lst hb)
        refine ⟨_, rfl, _, rfl, iteF ⟨_, rfl, _, _, _, _, false, rfl, .ty "bool", tb, by rfl, _, rfl, iteF ⟨_, rfl, _, _, _, _, false, rfl, .ty "int", tb, by rfl, _, rfl, iteF ⟨_, rfl, _, _, _, _, false, rfl, .ty "str", tb, by rfl, _, rfl, iteF ?_⟩⟩⟩⟩
        refine ⟨_, rfl, _, _, _, _, false, rfl, .ty "tuple", tb, by rfl, _, rfl, _, _, _, _, false, rfl, .ty "tuple", ta, by rfl, rfl, false, by rfl, iteF ?_⟩
        refine ⟨_, rfl, _, _, _, _, true, rfl, .ty "list", tb, by rfl, _, rfl, _, _, _, _, true, rfl, .ty "list", ta, by rfl, rfl, false, by rfl, iteF ?_⟩
        refine ⟨_, rfl, a, xs, rfl, .inl (SqL.of ha), _, rfl, b, ys, rfl, .inl (SqL.of hb), rfl, false, ?_, iteF ?_⟩
        · rw [hl, decide_eq_true rfl]
          rfl
        refine ⟨_, rfl, b, ys, rfl, .inl (SqL.of hb), (ys.length : Int), rfl, by omega, hbig, for_range (lo := 0) (n := (ys.length : Int).toNat) (fun i σ G => G = H ∧ ∃ o, σ = [some (.ref a), some (.ref b), o]) ⟨rfl, none, rfl⟩ ?_ ?_⟩
        · rintro i σ G hi ⟨rfl, o, rfl⟩
          rw [Int.toNat_natCast] at hi
          have hx : xs[i]? = some xs[i] := List.getElem?_eq_getElem (by omega)
          have hy : ys[i]? = some ys[i] := List.getElem?_eq_getElem hi
          refine ⟨_, rfl, _, rfl, Or.inl ⟨a, xs, ((0 : Int) + i), xs[i], rfl, rfl, SqL.of ha, by rw [Int.zero_add]; exact atI_nat hx, ?_⟩⟩
          refine ⟨_, rfl, _, rfl, Or.inl ⟨b, ys, ((0 : Int) + i), ys[i], rfl, rfl, SqL.of hb, by rw [Int.zero_add]; exact atI_nat hy, ?_⟩⟩
          exact ⟨_, _, rfl, hal i _ _ hx hy, true, rfl, iteF ⟨rfl, _, rfl⟩⟩
        · rintro σ G ⟨rfl, o, rfl⟩
          exact k
end
end S02

set_option Elab.async false
set_option linter.all false
set_option maxRecDepth 100000
set_option maxHeartbeats 8000000
/-! ### the law's helpers -/
namespace S02
open PySem PySem.Spec PyProof.Rows L2 K5 SupX GenX TL
theorem badFrom_ok : ∀ {ds : List Dd} {i : Nat}, (∀ d ∈ ds, d.ok = true) → i + ds.length ≤ 4 → badFrom i ds = none
  | [], _, _, _ => rfl
  | d :: ds, i, h, l => by
    rw [List.length_cons] at l
    unfold badFrom
    rw [if_neg]
    · exact badFrom_ok (fun d' hd => h d' (List.mem_cons_of_mem _ hd)) (by omega)
    · rw [h d List.mem_cons_self]
      simp
      omega
theorem deal_ok {ds : List Dd} (h : ∀ d ∈ ds, d.ok = true) (l1 : 1 ≤ ds.length) (l4 : ds.length ≤ 4) : dealBad ds = none := by
  unfold dealBad
  rw [if_neg (fun z => by rw [z] at l1; simp at l1)]
  exact badFrom_ok h (by omega)
section
variable {P : Program} {w : World} {K : PySem.W.Frag} {mg : Str → Option Value} {base : Heap} {A : Ad} {tp : Nat → Addr} {nr pl B C fI pR : Addr}
abbrev Nscdeals : List Str := ["_law_box", "_law_found", "_law_turn", "_law_letter"]
theorem scdeals : FnScope Nscdeals ["_law_box"] (defScope s_deals) := ⟨rfl, rfl, rfl, by decide +kernel, rfl, by decide +kernel, by decide +kernel⟩
def spLDeals : Sp := fun vs H Q _ => ∃ (bx bi : Addr), vs = [.ref bx] ∧ BoxAt H bx bi ∧ ∀ G l xs gs, BoxAt G bx bi → Kp (bF bx bi) H G → H l = none → G l = some (.lst xs) → Paired (GdAt G) xs gs → (∀ g ∈ gs, GdW g) → gs.length ≤ 12 → Q (.ref l) G
theorem ok_ldeals (T : Txt K mg A) : ∃ fd, FnOk P w K mg base CX0 4 (A.d 48) fd ["_law_box"] spLDeals ∧ Binds K fd ["_law_box"] [] := by
  obtain ⟨fd, F⟩ := T.deals.fn
  obtain ⟨fd1, Gtake, btake⟩ := ok_take (P := P) (w := w) (base := base) T
  obtain ⟨fd2, Gdrawn, bdrawn⟩ := ok_drawn (P := P) (w := w) (base := base) T
  obtain ⟨fd3, Gstore, bstore⟩ := ok_store (P := P) (w := w) (base := base) T
  refine ⟨fd, F.ok scdeals (fun vs H Q E h => ?_) (fun cdv Ar outer s0 H vs Q E hr h => ?_), F.binds fun _ _ _ _ _ _ us hl => match us, hl with | [_], _ => rfl⟩
  · obtain ⟨bx, bi, rfl, _⟩ := h
    rfl
  · obtain ⟨bx, bi, rfl, BX, k⟩ := h
    have hu := hu_of hr
    refine ⟨_, (pss_cons (ps_set (i := 1) scdeals.nd rfl (Or.inl rfl) (pe_lst pa_nil))
      (pss_cons (ps_for PassesOwn.never rfl (pi_range1 (by rfl) T.range (pa_cons (pe_call Gtake (hr.mono (by first | decide | omega)) rfl T.take.at_ T.take.kp btake .nil pass0 (pa_cons (pv 0) (pa_cons pe_int pa_nil))) pa_nil)) (pg_name (i := 2) scdeals.nd rfl (Or.inl rfl))
        (pss_cons (ps_set (i := 3) scdeals.nd rfl (Or.inl rfl) (pe_ix ix_list (pe_lst (pa_cons (pe_op op_add pe_int (pe_call Gtake (hr.mono (by first | decide | omega)) rfl T.take.at_ T.take.kp btake .nil pass0 (pa_cons (pv 0) (pa_cons pe_int pa_nil)))) (pa_cons (pe_call Gtake (hr.mono (by first | decide | omega)) rfl T.take.at_ T.take.kp btake .nil pass0 (pa_cons (pv 0) (pa_cons pe_int pa_nil))) pa_nil))) (pe_call Gtake (hr.mono (by first | decide | omega)) rfl T.take.at_ T.take.kp btake .nil pass0 (pa_cons (pv 0) (pa_cons pe_int pa_nil))) (fun _ _ => rfl)))
        (pss_one (ps_expr (pe_bm PySem.F.plainAttrs_list PySem.F.slot_list_append PySem.F.type_list_append mt_append (pv 1) (pa_cons (pe_tup (pa_cons (pe_call Gtake (hr.mono (by first | decide | omega)) rfl T.take.at_ T.take.kp btake .nil pass0 (pa_cons (pv 0) (pa_cons pe_int pa_nil))) (pa_cons (pv 3) (pa_cons (pe_call Gdrawn (hr.mono (by first | decide | omega)) rfl T.drawn.at_ T.drawn.kp bdrawn .nil pass0 (pa_cons (pv 0) (pa_cons (pe_call0 Gstore (hr.mono (by first | decide | omega)) rfl T.store.at_ T.store.kp bstore .nil pass0) pa_nil))) pa_nil)))) pa_nil))))))
      (pss_one (ps_ret (pv 1))))), ?_⟩
    refine ⟨sz 0 (by decide), fun l nl => ?_⟩
    have kl : Kp No H (upd H l (.lst [])) := Kp.new nl
    have el : upd H l (.lst []) l = some (.lst []) := upd_same
    have B0 := BX.no kl
    have nlb : ¬ bF bx bi l := new_nb BX nl
    generalize upd H l (.lst []) = H1 at kl el B0 ⊢
    refine ⟨_, rfl, bx, bi, 13, rfl, B0, by decide, by decide, fun n G1 n0 n1 B1 k1 => ⟨n, rfl, by omega, by omega, for_range (lo := 0) (n := n.toNat) (fun i σ J => ∃ o2 o3 xs gs, σ = [some (.ref bx), some (.ref l), o2, o3] ∧ BoxAt J bx bi ∧ Kp (bF bx bi) H J ∧ J l = some (.lst xs) ∧ Paired (GdAt J) xs gs ∧ (∀ g ∈ gs, GdW g) ∧ gs.length = i) ⟨none, none, [], [], rfl, B1, (kl.sub fun _ z => False.elim z).trans k1 fun b z => .inl z, k1.t.lst el nlb, .nil, (fun _ z => by cases z), rfl⟩ ?_ ?_⟩⟩
    · rintro i σ J hi ⟨o2, o3, xs, gs, rfl, BJ, kJ, eJ, pJ, hg, hlen⟩
      have hi12 : i < 12 := by omega
      refine ⟨_, rfl, bx, bi, 9, rfl, BJ, by decide, by decide, fun a1 J1 a10 a11 B2 k2 => ⟨_, _, rfl, rfl, _, rfl, bx, bi, 10000, rfl, B2, by decide, by decide, fun a2 J2 a20 a21 B3 k3 => ⟨sz 2 (by decide), fun p1 np1 => ?_⟩⟩⟩
      refine ⟨_, rfl, bx, bi, 2, rfl, B3.new np1, by decide, by decide, fun a3 J3 a30 a31 B4 k4 => ?_⟩
      obtain ⟨x, hx, s1, e1⟩ := pickL (K := K) V.int [1 + a1, a2] B3 np1 k4 a30 a31
      refine ⟨p1, _, a3, .int x, rfl, rfl, s1, e1, ?_⟩
      have hx2 : 0 ≤ x ∧ x ≤ 9999 := by
        simp only [List.mem_cons, List.not_mem_nil, or_false] at hx
        omega
      have k24 : Kp (bF bx bi) J J3 := ((k2.trans k3 fun _ z => .inl z).trans (Kp.new (F := bF bx bi) np1) fun _ z => .inl z).trans k4 fun _ z => .inl z
      refine ⟨_, rfl, .inl ⟨rfl, _, SqL.of (k24.t.lst eJ nlb)⟩, _, rfl, bx, bi, 4, rfl, B4, by decide, by decide, fun hd J4 h0 h3 B5 k5 => ⟨_, rfl, _, rfl, rfl, fun J5 s r h ns nr nh S5 k6 => ?_⟩⟩
      refine ⟨bx, bi, s, r, h, TT.new, 0, rfl, B5.no k6, S5, (fun k w e z => by cases z), fun J6 dv ds B6 k7 hds hok l1 l4 => ⟨sz 3 (by decide), fun u nu => ?_⟩⟩
      have kU : Kp No J6 (upd J6 u (.tup [.int hd, .int x, dv])) := Kp.new nu
      have eU : upd J6 u (.tup [.int hd, .int x, dv]) u = some (.tup [.int hd, .int x, dv]) := upd_same
      generalize upd J6 u (.tup [.int hd, .int x, dv]) = J7 at kU eU ⊢
      have kJ7 : Kp (bF bx bi) J J7 := (((k24.trans k5 fun _ z => .inl z).trans k6 fun _ z => False.elim z).trans k7 fun _ z => .inl z).trans kU fun _ z => False.elim z
      have eJ7 := kJ7.t.lst eJ nlb
      refine ⟨l, xs, _, rfl, rfl, eJ7, szL (by rw [pJ.length]; omega), ?_⟩
      have kA : Kp (fun b => b = l) J7 (upd J7 l (.lst (xs ++ [.ref u]))) := Kp.updL eJ7 rfl
      have w9 : GdW ⟨hd, x, ds⟩ := ⟨h0, (by show hd ≤ 3; omega), hx2.1, hx2.2, deal_ok hok l1 l4⟩
      refine ⟨_, _, _, gs ++ [⟨hd, x, ds⟩], rfl, (B6.no kU).kt kA.t (fun b z y => nlb (by rw [← show b = l from z]; exact y)), ?_, upd_same, ?_, fun g hg' => ?_, by rw [List.length_append, hlen]; rfl⟩
      · intro b o e n
        by_cases z : b = l
        · rw [z, nl] at e; cases e
        · exact kA b o (kJ7 b o (kJ b o e n) n) fun _ => z
      · exact (pJ.mono fun _ _ z => (z.kt kJ7.t).kt kA.t).snoc ⟨u, dv, rfl, kA.t.tup eU, (hds.kt kU.t).kt kA.t⟩
      · rcases List.mem_append.mp hg' with z | z
        · exact hg g z
        · rw [List.mem_singleton.mp z]; exact w9
    · rintro σ J ⟨o2, o3, xs, gs, rfl, BJ, kJ, eJ, pJ, hg, hlen⟩
      exact ⟨_, rfl, k J l xs gs BJ kJ nl eJ pJ hg (by omega)⟩
end
end S02

set_option Elab.async false
set_option linter.all false
set_option maxRecDepth 100000
set_option maxHeartbeats 4000000
namespace S02
open PySem PySem.Spec PyProof.Rows L2 K5 SupX GenX TL
theorem call_strB {X : Cx} : CallR X (.type "str") (fun xs H Q => (∃ i, xs = [.int i] ∧ i.natAbs.log2 < 1920 ∧ Q (.str (nS i)) H) ∨ ∃ a, xs = [.str a] ∧ Q (.str a) H) := fun pins s σ H xs us Q I r h =>
  h.elim (call_str_int pins s σ H xs us Q I r) (SkE.call_str_str pins s σ H xs us Q I r)
theorem sum_len {m : Nat} : ∀ {ys : List Str}, (∀ y ∈ ys, (tl y).length ≤ m) → (ys.map (·.length)).sum ≤ ys.length * m
  | [], _ => Nat.zero_le _
  | y :: ys, h => by
    have h1 := h y List.mem_cons_self
    have h2 := sum_len (ys := ys) fun z hz => h z (List.mem_cons_of_mem _ hz)
    rw [← len_tl] at h1
    show y.length + (ys.map (·.length)).sum ≤ (ys.length + 1) * m
    rw [Nat.succ_mul]
    omega
def rowsS (gs : List Gd) : List Str := gs.map fun g => rowS g.hd g.x g.ds
def textS (gs : List Gd) : Str := Str.join "\n" (rowsS gs)
theorem rows_len {gs : List Gd} (h : ∀ g ∈ gs, GdW g) : ∀ y ∈ rowsS gs, (tl y).length ≤ 117 := fun y hy => by
  obtain ⟨g, hg, rfl⟩ := List.mem_map.mp hy
  have w := h g hg
  obtain ⟨_, h1, h2⟩ := deal_all w.ok
  exact row_len w.h0 (by have := w.h3; omega) w.x0 (by have := w.x9; omega) h1 h2
theorem text_len {gs : List Gd} (h : ∀ g ∈ gs, GdW g) (l : gs.length ≤ 100) : (tl (textS gs)).length ≤ 11800 := by
  unfold textS
  rw [tl_join]
  refine Nat.le_trans (joinL_len (m := 117) fun p hp => ?_) ?_
  · obtain ⟨y, hy, rfl⟩ := List.mem_map.mp hp
    exact rows_len h y hy
  · rw [List.length_map]
    unfold rowsS
    rw [List.length_map, show (tl ("\n" : Str)).length = 1 by decide +kernel]
    exact Nat.le_trans (Nat.mul_le_mul_right _ l) (by decide)
theorem rows_free {gs : List Gd} : ∀ r ∈ rowsS gs, 10 ∉ tl r := fun r hr hc => by
  obtain ⟨g, hg, rfl⟩ := List.mem_map.mp hr
  exact chC_row hc rfl
end S02

set_option Elab.async false
set_option linter.all false
set_option maxRecDepth 100000
set_option maxHeartbeats 8000000
/-! ### the law's helpers: the text of deals; what a lead tells of them -/
namespace S02
open PySem PySem.Spec PyProof.Rows L2 K5 SupX GenX TL
abbrev rJoinS (K : PySem.W.Frag) : V → List V → Hp → VK → Prop := fun x xs H Q => ∃ a p, ∃ ys : List Str, x = .str a ∧ xs = [.ref p] ∧ (SqL K H p (ys.map V.str) ∨ SqT K H p (ys.map V.str)) ∧ (ys.map (·.length)).sum + ys.length * a.length ≤ 16777216 ∧ Q (.str (Txt.join a ys)) H
abbrev rStrB : List V → Hp → VK → Prop := fun xs H Q => (∃ i, xs = [.int i] ∧ i.natAbs.log2 < 1920 ∧ Q (.str (nS i)) H) ∨ ∃ a, xs = [.str a] ∧ Q (.str a) H
section
variable {P : Program} {w : World} {K : PySem.W.Frag} {mg : Str → Option Value} {base : Heap} {A : Ad} {tp : Nat → Addr} {nr pl B C fI pR : Addr}
/-- a deed's text, the deed in slot 6, its parts in slot 7 -/
theorem deed_text {K : PySem.W.Frag} {J : Hp} {v : V} {d : Dd} {s0 s1 s2 s3 s4 s5 s7 : Option V} {Q : VK} (hv : DdAt J v d) (hok : d.ok = true) (hQ : ∀ G, Kp No J G → Q (.str (deedS d)) G) :
    (tM1 (rJoinS K) (tC (.str " ")) (tLc (iTup K (tVar 6)) (gName 7) tYes (tIf (tB (tIsN (tVar 7))) (tC (.str "-")) (tCB rStrB (tCons (tVar 7) tNil))) [7])) [s0, s1, s2, s3, s4, s5, some v, s7] J Q := by
  obtain ⟨a, rfl, e⟩ := hv
  refine ⟨⟨_, rfl⟩, _, rfl, a, rfl, ⟨_, SqT.of e⟩, fun D nD => ?_⟩
  refine lc_tup (K := K) (a := a) (xs := d.vs) (fun i G => Kp (fun b => b = D) J G ∧ G D = some (.lst (((d.vs.take i).map pS).map V.str))) ⟨Kp.new nD, upd_same⟩ (fun i G _ ⟨kG, _⟩ => SqT.of (kG.t.tup e)) ?_ ?_
  · rintro i x G hx ⟨kG, eG⟩
    have hm := List.mem_of_getElem? hx
    have hl : i < 4 := Nat.lt_of_lt_of_le (List.getElem?_eq_some_iff.mp hx).1 (vs_len d)
    have fin : ∀ {y : V}, y = .str (pS x) → ∃ acc, G D = some (.lst acc) ∧ acc.length < sizeLine ∧ Kp (fun b => b = D) J (upd G D (.lst (acc ++ [y]))) ∧ (upd G D (.lst (acc ++ [y]))) D = some (.lst (((d.vs.take (i + 1)).map pS).map V.str)) := fun {y} hy => by
      subst hy
      refine ⟨_, eG, szL (by rw [List.length_map, List.length_map, List.length_take]; omega), kG.trans (show Kp (fun b => b = D) G _ from Kp.updL eG rfl) fun b z => .inl z, ?_⟩
      rw [upd_same, take_snoc hx, List.map_append, List.map_append]
      rfl
    refine ⟨rfl, _, rfl, ?_⟩
    rcases List.mem_cons.mp hm with rfl | hp
    · exact ⟨_, rfl, iteF ⟨_, rfl, .inr ⟨_, rfl, fin rfl⟩⟩⟩
    · rcases parts_small hok x hp with ⟨n, rfl, n1, n2⟩ | rfl
      · exact ⟨_, rfl, iteF ⟨_, rfl, .inl ⟨n, rfl, small_log (by omega) (by omega), fin rfl⟩⟩⟩
      · exact ⟨_, rfl, iteT (fin rfl)⟩
  · rintro G ⟨kG, eG⟩
    rw [List.take_length] at eG
    refine ⟨" ", D, d.vs.map pS, rfl, rfl, .inl (SqL.of eG), ?_, ?_⟩
    · have h1 := sum_len (m := 5) (ys := d.vs.map pS) fun y hy => by
        obtain ⟨v, hv, rfl⟩ := List.mem_map.mp hy
        exact part_len hok v hv
      rw [List.length_map] at h1 ⊢
      have h2 := vs_len d
      have h3 : (" " : Str).length = 1 := by decide +kernel
      rw [h3]
      have h4 : d.vs.length * 5 ≤ 4 * 5 := Nat.mul_le_mul_right _ h2
      omega
    · rw [join_eq]
      exact hQ G (kp_fresh kG fun b z => by rw [show b = D from z]; exact nD)
abbrev Nsctext : List Str := ["_law_deals_here", "_law_rows", "_law_hand", "_law_letter", "_law_deal_here", "_law_deeds", "_law_deed_here", "_law_part_here"]
theorem sctext : FnScope Nsctext ["_law_deals_here"] (defScope s_text) := ⟨rfl, rfl, rfl, by decide +kernel, rfl, by decide +kernel, by decide +kernel⟩
def spText : Sp := fun vs H Q _ => ∃ (a : Addr) (xs : List V) (gs : List Gd), vs = [.ref a] ∧ H a = some (.lst xs) ∧ Paired (GdAt H) xs gs ∧ (∀ g ∈ gs, GdW g) ∧ gs.length ≤ 12 ∧ ∀ G, Kp No H G → Q (.str (textS gs)) G
theorem ok_text (T : Txt K mg A) : ∃ fd, FnOk P w K mg base CX0 1 (A.d 49) fd ["_law_deals_here"] spText ∧ Binds K fd ["_law_deals_here"] [] := by
  obtain ⟨fd, F⟩ := T.text.fn
  refine ⟨fd, F.ok sctext (fun vs H Q E h => ?_) (fun cdv Ar outer s0 H vs Q E hr h => ?_), F.binds fun _ _ _ _ _ _ us hl => match us, hl with | [_], _ => rfl⟩
  · obtain ⟨a, xs, gs, rfl, _⟩ := h
    rfl
  · obtain ⟨a, xs, gs, rfl, e, pg, hg, hl, k⟩ := h
    have hu := hu_of hr
    refine ⟨_, (pss_cons (ps_set (i := 1) sctext.nd rfl (Or.inl rfl) (pe_lst pa_nil))
      (pss_cons (ps_for PassesOwn.never rfl (pi_list (pv 0)) (pg_tup rfl (pgs_cons (pg_name (i := 2) sctext.nd rfl (Or.inl rfl)) (pgs_cons (pg_name (i := 3) sctext.nd rfl (Or.inl rfl)) (pgs_cons (pg_name (i := 4) sctext.nd rfl (Or.inl rfl)) pgs_nil))))
        (pss_cons (ps_setLc (i := 5) (own := [("_law_deed_here", 6)]) (g := (gName 6)) (te := tM1 (rJoinS K) (tC (.str " ")) (tLc (iTup K (tVar 6)) (gName 7) tYes (tIf (tB (tIsN (tVar 7))) (tC (.str "-")) (tCB rStrB (tCons (tVar 7) tNil))) [7])) (by rfl) sctext.nd rfl rfl (sw_true rfl rfl rfl (by decide +kernel)) (pi_tup (pv 4)) (blkOk_by (N := Nsctext) (sc := defScope s_text) (by decide +kernel)) (fun _ _ _ _ _ => pg_name (i := 6) sctext.nd rfl (Or.inl rfl)) (fun _ _ _ _ _ => pts_nil) (fun _ _ _ _ _ => by exact (pe_join pe_str (pe_lc (own := [("_law_part_here", 7)]) (g := (gName 7)) (by rfl) sctext.nd (pi_tup (pv 6)) (blkOk_by (N := Nsctext) (sc := { kind := .function, names := [(".0", .local), ("_law_deed_here", .local)], isGenerator := false, isCoroutine := false }) (by decide +kernel)) (fun _ _ _ _ _ => pg_name (i := 7) sctext.nd rfl (Or.inl rfl)) (fun _ _ _ _ _ => pts_nil) (fun _ _ _ _ _ => (pe_ifExp (pt_cmp (pc_isN (pv 7))) pe_str (pe_callTy call_strB (by rfl) T.str (by decide +kernel) (pa_cons (pv 7) pa_nil))))))))
        (pss_one (ps_expr (pe_bm PySem.F.plainAttrs_list PySem.F.slot_list_append PySem.F.type_list_append mt_append (pv 1) (pa_cons (pe_op op_add_str (pe_op op_add_str (pe_op op_add_str (pe_op op_add_str (pe_callTy call_str_int (by rfl) T.str (by decide +kernel) (pa_cons (pv 2) pa_nil)) pe_str) (pe_callTy call_str_int (by rfl) T.str (by decide +kernel) (pa_cons (pv 3) pa_nil))) pe_str) (pe_join pe_str (pv 5))) pa_nil))))))
      (pss_one (ps_ret (pe_join pe_str (pv 1)))))), ?_⟩
    refine ⟨sz 0 (by decide), fun rw_ nrw => ?_⟩
    have k0 : Kp (fun b => b = rw_) H (upd H rw_ (.lst [])) := Kp.new nrw
    have ra : a ≠ rw_ := fun z => by rw [← z, e] at nrw; cases nrw
    refine ⟨_, rfl, a, rfl, ⟨_, SqL.of (k0.t.lst e ra)⟩, for_list (K := K) (a := a) (xs := xs) (fun i σ J => ∃ o2 o3 o4 o5 o6 o7, σ = [some (.ref a), some (.ref rw_), o2, o3, o4, o5, o6, o7] ∧ Kp (fun b => b = rw_) H J ∧ J rw_ = some (.lst ((rowsS (gs.take i)).map V.str))) ⟨_, _, _, _, _, _, rfl, k0, upd_same⟩ (fun i σ J _ ⟨_, _, _, _, _, _, _, kJ, _⟩ => SqL.of (kJ.t.lst e ra)) ?_ ?_⟩
    · rintro i y σ J hy ⟨o2, o3, o4, o5, o6, o7, rfl, kJ, eJ⟩
      obtain ⟨g, hgi, u, dv, rfl, hu2, hds⟩ := paired_at pg hy
      have hi := (List.getElem?_eq_some_iff.mp hgi).1
      have w9 := hg g (List.mem_of_getElem? hgi)
      obtain ⟨w0, w1, w2⟩ := deal_all w9.ok
      obtain ⟨b, ys, rfl, eb, pd, _⟩ := hds
      refine ⟨u, _, rfl, SqT.of (kJ.t.tup hu2), rfl, _, _, rfl, _, _, rfl, _, _, rfl, rfl, ?_⟩
      refine ⟨_, rfl, b, rfl, ⟨_, SqT.of (kJ.t.tup eb)⟩, fun D nD => ?_⟩
      have nDr : rw_ ≠ D := fun z => by rw [← z, eJ] at nD; cases nD
      refine lc_tup (K := K) (a := b) (xs := ys) (fun i I => Kp (fun c => c = D) J I ∧ I D = some (.lst (((g.ds.take i).map deedS).map V.str))) ⟨Kp.new nD, upd_same⟩ (fun i I _ ⟨kI, _⟩ => SqT.of (kI.t.tup (kJ.t.tup eb))) ?_ ?_
      · rintro i2 z I hz ⟨kI, eI⟩
        obtain ⟨d, hd, hdd⟩ := paired_at pd hz
        have hi2 := (List.getElem?_eq_some_iff.mp hd).1
        refine ⟨rfl, deed_text ((hdd.kt kJ.t).kt kI.t) (w1 d (List.mem_of_getElem? hd)) fun G kG => ?_⟩
        have eG := kG.t.lst eI fun z => z
        refine ⟨_, eG, szL (by rw [List.length_map, List.length_map, List.length_take]; omega), (kI.trans kG fun _ z => False.elim z).trans (show Kp (fun c => c = D) G _ from Kp.updL eG rfl) fun b z => .inl z, ?_⟩
        rw [upd_same, take_snoc hd, List.map_append, List.map_append]
        rfl
      · rintro I ⟨kI, eI⟩
        rw [show g.ds.take ys.length = g.ds by rw [pd.length]; exact List.take_length] at eI
        have kHI : Kp (fun b => b = rw_) H I := kJ.trans (kp_fresh kI fun c z => by rw [show c = D from z]; exact nD) fun _ z => False.elim z
        have eR : I rw_ = some (.lst ((rowsS (gs.take i)).map V.str)) := kI.t.lst eJ nDr
        have c1 := nS_len (i := g.hd) (by have := w9.h0; omega) (by have := w9.h3; omega)
        have c2 := nS_len (i := g.x) (by have := w9.x0; omega) (by have := w9.x9; omega)
        have c3 : (tl (" " : Str)).length = 1 := by decide +kernel
        have c4 : (tl (": " : Str)).length = 2 := by decide +kernel
        have tlen : (tl (Str.join ("; " : Str) (g.ds.map deedS))).length ≤ 104 := tail_len w1 w2
        have big : ∀ {y z : Str}, (tl y).length + (tl z).length ≤ 400 → y.length + z.length ≤ sizeLine := fun {y z} h => by rw [len_tl, len_tl]; exact Nat.le_trans h (by decide)
        have lens := sum_len (m := 24) (ys := g.ds.map deedS) fun y hy => by
          obtain ⟨d, hd, rfl⟩ := List.mem_map.mp hy
          exact deed_len (w1 d hd)
        rw [List.length_map] at lens
        have l4 : g.ds.length * 24 ≤ 4 * 24 := Nat.mul_le_mul_right _ w2
        have tlen2 : (tl (Txt.join ("; " : Str) (g.ds.map deedS))).length ≤ 104 := by rw [join_eq]; exact tlen
        have sums : ((g.ds.map deedS).map (·.length)).sum + (g.ds.map deedS).length * ("; " : Str).length ≤ 16777216 := by
          rw [List.length_map, show ("; " : Str).length = 2 by decide +kernel]
          omega
        refine ⟨_, rfl, .inl ⟨rfl, _, SqL.of eR⟩, _, rfl, g.hd, rfl, small_log (by have := w9.h0; omega) (by have := w9.h3; omega), nS g.hd, " ", rfl, rfl, big (by omega), _, rfl, g.x, rfl, small_log (by have := w9.x0; omega) (by have := w9.x9; omega), nS g.hd ++ " ", nS g.x, rfl, rfl, big (by simp only [tl_append, List.length_append]; omega), nS g.hd ++ " " ++ nS g.x, ": ", rfl, rfl, big (by simp only [tl_append, List.length_append]; omega), ⟨_, rfl⟩, _, rfl, "; ", D, g.ds.map deedS, rfl, rfl, .inl (SqL.of eI), sums, nS g.hd ++ " " ++ nS g.x ++ ": ", _, rfl, rfl, big (by simp only [tl_append, List.length_append]; omega), rw_, _, _, rfl, rfl, eR, szL (by unfold rowsS; rw [List.length_map, List.length_map, List.length_take]; omega), ?_⟩
        refine ⟨_, _, _, _, _, _, rfl, kHI.trans (show Kp (fun b => b = rw_) I _ from Kp.updL eR rfl) fun b z => .inl z, ?_⟩
        rw [upd_same, take_snoc hgi, join_eq]
        unfold rowsS
        rw [List.map_append, List.map_append]
        rfl
    · rintro σ J ⟨o2, o3, o4, o5, o6, o7, rfl, kJ, eJ⟩
      rw [show gs.take xs.length = gs by rw [pg.length]; exact List.take_length] at eJ
      have lens := sum_len (m := 117) (ys := rowsS gs) (rows_len hg)
      refine ⟨⟨_, rfl⟩, _, rfl, "\n", rw_, rowsS gs, rfl, rfl, .inl (SqL.of eJ), ?_, ?_⟩
      · unfold rowsS at lens ⊢
        rw [List.length_map] at lens ⊢
        have h3 : ("\n" : Str).length = 1 := by decide +kernel
        rw [h3]
        have h4 : gs.length * 117 ≤ 12 * 117 := Nat.mul_le_mul_right _ hl
        omega
      · rw [join_eq]
        exact k J (kp_fresh kJ fun b z => by rw [show b = rw_ from z]; exact nrw)
end
end S02

set_option Elab.async false
set_option linter.all false
set_option maxRecDepth 100000
set_option maxHeartbeats 2000000
/-! ### 7. A lambda that may raise, handed to a def that catches it: the exceptions' contexts are None -/
namespace K5
open PySem PySem.Spec PyProof.Rows L2 LamX
/-- what is wanted of an exception that leaves the lambda -/
def lamXe (X : Cx) (Ar : Around) (outer : List Env) (s : Shared) (H : Hp) (E : XK) (scope : Scope) (f c' : Addr) : Value → Shared → Prop := fun e s' =>
  wpAny (model X.prog X.w) (Ar.deeper (lamEnv X scope s.heap.objs.size f c')) (leaving (lamEnv X scope s.heap.objs.size f c') e) (fun _ t => L2N.CX X.prog X.w outer H s E e t) (fun e' t => L2N.CX X.prog X.w outer H s E e' t) s'
/-- the context of the lambda's body -/
abbrev lamN (X : Cx) (Ar : Around) (outer : List Env) (s : Shared) (H : Hp) (E : XK) (scope : Scope) (f c' : Addr) : Cx := (lamCx X Ar outer s H E scope f c').wish (lamXe X Ar outer s H E scope f c')
section
variable {X : Cx} {pins : List (Addr × Obj)} {σ : L2.St} {H HZ : Hp} {s s1 : Shared}
abbrev cxG (X : Cx) (Ng : List Str) (qg : Str) (sg : Scope) (g : Addr) (cdg : Value) (s : Shared) (H : Hp) : Cx := cxOf C8.CX0 X.prog X.w X.K X.mg X.base Ng qg sg g cdg X.A X.stack s H C8.E0
/-- x(), within the def that got the lambda -/
theorem actN {Ng : List Str} {qg : Str} {sg : Scope} {g f c' : Addr} {cdg pm ctv : Value} {params : Arguments} {body : Expr} {scope : Scope} {k i : Nat} {a : Str} {pn : List (Addr × Obj)} {xe : Value → Shared → Prop} {W : WX} {E : XK} {tb : TE} {p1 p2 : Pos}
    (I : Inv X pins σ H s) (Ls : LamS X.env.scope scope) (hf : s.heap.get? f = some (PySem.W.kla_obj "<lambda>" (X.env.qual ++ "<lambda>") params body scope (cloFrom X.env.cells scope.names []) pm c' ctv)) (hfn : H f = none) (hfr : f ∉ frs X.stack)
    (hb0 : bindArgs (PySem.W.kla_fn "<lambda>" (X.env.qual ++ "<lambda>") params body scope (cloFrom X.env.cells scope.names []) pm (.ref c') ctv) ⟨[], []⟩ = pure [])
    (tk : L2N.Takes ((cxG X Ng qg sg g cdg s H).tr pn xe) W) (hW : ∀ cls d τ G, E cls d G → W cls d τ G) (hr : Room (k + 1) (X.A.deeper (envOfC qg sg s.heap.objs.size g cdg)))
    (hbody : ∀ (Ar : Around) (outer : List Env) (t : Shared) (G : Hp), Room k (Ar.deeper (lamEnv X scope t.heap.objs.size f c')) → PE (lamN X Ar outer t G E scope f c') body tb)
    (hN : Ng[i]? = some a) (hv : Vis sg a) (hd : (a == ("__debug__" : Str)) = false := by decide) (hcd : (a == ("__classdict__" : Str)) = false := by decide) :
    PE ((cxG X Ng qg sg g cdg s H).tr pn xe) (.Call (.Name a p1) [] [] p2) (fun τ G Q => τ[i]? = some (some (.ref f)) ∧ G c' = some (CodeO c' (X.env.qual ++ "<lambda>")) ∧ tb σ G Q) := by
  refine ⟨fun pz sz τ G Q IZ ⟨hs, hc, ht⟩ => wpAny_Call_Name_kw (thn ((pe_var (pos := p1) (i := i) hN hv hd hcd).run pz sz τ G (fun v J => v = .ref f ∧ J = G) IZ ⟨.ref f, hs, rfl, rfl⟩) fun u s1 ⟨v, J, I1, r1, ev, eJ⟩ => ?_)⟩
  subst ev eJ
  cases (show u = Value.ref f from r1)
  have of1 : s1.heap.get? f = some _ := I1.base.keep f _ hf hfn hfr nofun
  refine PySem.W.callWith_F0 ⟨_, _, _, _, of1⟩ ?_
  obtain ⟨⟨oc, vs, t, hoc, hdc, hvc⟩, _, _⟩ := I1.hok c' _ hc
  have key : codeAny (model X.prog X.w) (X.A.deeper (envOfC qg sg s.heap.objs.size g cdg)) (.call (.ref f) ⟨[], []⟩) (CR (L2N.CX X.prog X.w) (envOfC qg sg s.heap.objs.size g cdg :: X.stack) X.prog X.w J s1 Q E) s1 := by
    refine PySem.W.kla_callFunE hr.depth of1 rfl Ls.co Ls.gen rfl ⟨c', oc, vs, t, rfl, hoc, hdc, hvc⟩ ?_
    rw [hb0]
    refine wpAny_pure (wpAny_newFunctionEnv (fun y hy => (Ls.own y hy).2) (fun y hy => absurd hy (by simp)) (fun h₁ hns hsb => ⟨I1.nolimit.fresh _ hsb, ?_⟩) Ls.kind)
    have kp : ∀ b o, s1.heap.get? b = some o → h₁.get? b = some o := fun b o e => hsb.extBut b o (Nat.ne_of_lt (Heap.lt_size e)) (Heap.get?_push_of_some _ e)
    have J0 := lam_start2 (E := E) (tk := s1.toks + ([] : List (Str × Value)).length) (f := f) (c' := c') I Ls I1.env0 hr.hd (show Un (frs X.stack) [] H J s.heap s1.heap from I1.base) hns kp
    have J1 : Inv (lamN X (X.A.deeper (envOfC qg sg s.heap.objs.size g cdg)) (envOfC qg sg s.heap.objs.size g cdg :: X.stack) s1 J E scope f c') [] σ J _ := J0.wish _
    show codeAny _ _ (.expr body (lamEnv X scope s1.heap.objs.size f c')) _ _
    refine PySem.W.kla_codeExpr (wpAny_mono ((hbody _ _ s1 J (hr.deeper _)).run [] _ _ J Q J1 ht) (fun v s' ⟨w', G', J', rv, q⟩ => ?_) fun e s' hq => hq)
    exact ⟨w', G', J'.os, J'.bare, J'.base, J'.hok, rv, q⟩
  refine wpAny_call (codeAny_mono key fun r s' hq => ?_)
  match r, hq with
  | .error e, hq => exact L2N.passes_call tk hW pz τ J s1 e s' I1 hq
  | .ok (.ret u), hq => exact I1.after hq
  | .ok .next, hq => exact False.elim hq
  | .ok .brk, hq => exact False.elim hq
  | .ok .cont, hq => exact False.elim hq
end
/-- the def at g, called with a lambda, makes TT of the lambda's reading -/
def GivesN (X : Cx) (Ng : List Str) (x : Str) (sg : Scope) (g : Addr) (cdg : Value) (bg : List Stmt) (a q : Str) (TT : (XK → Hp → VK → Prop) → Hp → VK → Prop) : Prop :=
  ∀ (f c' : Addr) (s : Shared) (H : Hp) (Q : VK) (tl : XK → Hp → VK → Prop), Room 3 (X.A.deeper (envOfC x sg s.heap.objs.size g cdg)) →
    (∀ (W : WX) (pn : List (Addr × Obj)) (xe : Value → Shared → Prop) (E : XK) (p1 p2 : Pos), L2N.Takes ((cxG X Ng x sg g cdg s H).tr pn xe) W → (∀ cls d τ G, E cls d G → W cls d τ G) →
      PE ((cxG X Ng x sg g cdg s H).tr pn xe) (.Call (.Name a p1) [] [] p2) (fun τ G Q => τ[0]? = some (some (.ref f)) ∧ G c' = some (CodeO c' q) ∧ tl E G Q)) →
    H c' = some (CodeO c' q) → TT tl H Q →
    ∃ t, PSs (cxG X Ng x sg g cdg s H).nox bg t ∧ t { nx := fun _ G => Q .non G, rt := Q } (L2.start Ng [.ref f]) H
def tLamN (T : List (Addr × Str)) (TT : (XK → Hp → VK → Prop) → Hp → VK → Prop) (t : XK → TE) : TE := fun σ H Q => Tabs T H ∧ ∀ G, ExtN H G → Tabs T G → TT (fun E J R => t E σ J R) G Q
section
variable {X : Cx}
/-- x(lambda: body) -/
theorem lamcallN {T : List (Addr × Str)} {TT : (XK → Hp → VK → Prop) → Hp → VK → Prop} {x a : Str} {g c P : Addr} {k : Nat} {pg : Arguments} {bg : List Stmt} {sg : Scope} {dV kV doc pm cdv ct oc : Value} {an od : Option Addr} {osl : Array (Option Value)} {Ng : List Str}
    {params : Arguments} {body : Expr} {scope : Scope} {t : XK → TE} {p lpos pos : Pos} (hg : Gl X x) (hm : X.mg x = some (.ref g)) (hk : PySem.W.keepIn X.K (.ref g) = true)
    (lk : X.K.lookup g = some ⟨oc, od, .func (PySem.W.fnOf x x pg bg sg dV kV doc pm an cdv ct), osl⟩) (hcg : PySem.W.codeIn X.K cdv x = true) (hb : L2.Binds X.K (PySem.W.fnOf x x pg bg sg dV kV doc pm an cdv ct) [a] []) (Sg : FnScope Ng [a] sg) (hNg : Ng[0]? = some a) (hva : Vis sg a)
    (hG : GivesN X Ng x sg g cdv bg a (X.env.qual ++ "<lambda>") TT) (k3 : 2 ≤ k)
    (TB : TabB X.base X.mg c P) (hcode : X.env.code = .ref c) (hmT : (P, X.env.qual ++ "<lambda>") ∈ T) (hu : ∀ p ∈ T, p.1 = P → p.2 = X.env.qual ++ "<lambda>") (hr : Room (k + 2) X.A) (Ls : LamS X.env.scope scope) (hdef : defaultsOf params X.env = ([], []))
    (hbind : ∀ (q : Str) (cl : List (Str × Addr)) (pm cv ctv : Value), bindArgs (PySem.W.kla_fn "<lambda>" q params body scope cl pm cv ctv) ⟨[], []⟩ = pure [])
    (hbody : ∀ (Ar : Around) (outer : List Env) (s : Shared) (H : Hp) (E : XK) (f c' : Addr), Room k (Ar.deeper (lamEnv X scope s.heap.objs.size f c')) → PE (lamN X Ar outer s H E scope f c') body (t E))
    (hdb : (x == ("__debug__" : Str)) = false := by decide) (hd : (a == ("__debug__" : Str)) = false := by decide) (hcd : (a == ("__classdict__" : Str)) = false := by decide) :
    PE X (.Call (.Name x p) [.Lambda params body scope lpos] [] pos) (tLamN T TT t) := by
  refine ⟨fun pins s σ H Q I ⟨hT, h⟩ => wpAny_Call_Name_kw (ld_glob I hg hm (PySem.W.callWith_K (h₀ := X.base) I.ok.mod.kin hk ?_ (by rfl) (by rfl)) hdb)⟩
  show wpAny _ _ (spliced ((false, eval (.Lambda params body scope lpos) X.env) :: backTo pos (starEach [] X.env))) _ _ s
  refine Calls.spliced_cons (lam_make2 I TB hcode hmT hu hT hdef (Ls.has I.ok) fun f c' pm' ctv G s1 I1 eN T1 hf hfn hfr hco => Calls.spliced_nil ⟨I1.kIn, ?_⟩)
  have key : codeAny (model X.prog X.w) X.A (.call (.ref g) ⟨[.ref f], []⟩) (CR C8.CX0 X.stack X.prog X.w G s1 Q C8.E0) s1 := by
    refine run_ofS (N := Ng) (ps := [a]) (us := [.ref f]) (vs := [.ref f]) lk hcg Sg hr I1.env0 (hb s1 [.ref f] I1.kIn rfl) (.cons rfl .nil) rfl fun hr2 => ?_
    obtain ⟨u, hu1, hu2⟩ := hG f c' s1 G Q (fun E J R => t E σ J R) (hr2.mono (by omega)) (fun W pn xe E p1 p2 tk hW => actN (i := 0) I1 Ls hf hfn hfr (hbind _ _ _ _ _) tk hW hr2 (fun Ar outer s H q => hbody Ar outer s H E f c' q) hNg hva hd hcd) hco (h G eN T1)
    exact ⟨u, hu1.nox, hu2⟩
  refine wpAny_call (codeAny_mono key fun r s' hq => ?_)
  match r, hq with
  | .error e, hq => exact (show False from hq).elim
  | .ok (.ret u), hq => exact I1.after hq
  | .ok .next, hq => exact False.elim hq
  | .ok .brk, hq => exact False.elim hq
  | .ok .cont, hq => exact False.elim hq
end
end K5

set_option Elab.async false
set_option linter.all false
set_option maxRecDepth 100000
set_option maxHeartbeats 2000000
/-! ### A lambda that is kept: tracked as an object of its own, handed on in a list, and called by a def that a def calls -/
namespace K5
open PySem PySem.Spec PyProof.Rows L2 LamX
/-- the lambda at f -/
def LamO (q : Str) (ar : Arguments) (bd : Expr) (sc : Scope) (cl : List (Str × Addr)) (f c' : Addr) : HO :=
  .ext fun h => ∃ pm ctv, h.get? f = some (PySem.W.kla_obj "<lambda>" q ar bd sc cl pm c' ctv)
theorem LamO.ok {P : Program} {w : World} {H : Hp} {h : Heap} {q : Str} {ar : Arguments} {bd : Expr} {sc : Scope} {cl : List (Str × Addr)} {f c' : Addr} {pm ctv : Value} (e : h.get? f = some (PySem.W.kla_obj "<lambda>" q ar bd sc cl pm c' ctv)) : ObjOk P w H h f (LamO q ar bd sc cl f c') :=
  ⟨⟨pm, ctv, e⟩, ⟨_, e⟩, fun h1 h2 ⟨a, b, z⟩ st => ⟨a, b, st _ z⟩⟩
theorem tabs_more {Tb : List (Addr × Str)} {G : Hp} {f : Addr} {o : HO} (t : Tabs Tb G) (n : G f = none) : Tabs Tb (upd G f o) := t.ext fun b u e => by rw [upd_ne (ne_of_none e n)]; exact e
section
variable {X : Cx} {pins : List (Addr × Obj)} {σ : L2.St} {H : Hp} {s : Shared}
/-- the lambda is made, and tracked -/
theorem lam_kept {Tb : List (Addr × Str)} {c P : Addr} {ar : Arguments} {bd : Expr} {sc : Scope} {pos : Pos} {E : Value → Shared → Prop} {Q : Value → Shared → Prop} (TB : TabB X.base X.mg c P) (hcode : X.env.code = .ref c) (hmT : (P, X.env.qual ++ "<lambda>") ∈ Tb)
    (one : ∀ p ∈ Tb, p.1 = P → p.2 = X.env.qual ++ "<lambda>") (nodef : defaultsOf ar X.env = ([], [])) (fr : ∀ y ∈ sc.names, y.2 = .free → ∃ c, X.env.cells.lookup y.1 = some c) (I : Inv X pins σ H s) (hT : Tabs Tb H)
    (k : ∀ (f c' : Addr) (G : Hp) (s' : Shared), Inv X pins σ (upd G f (LamO (X.env.qual ++ "<lambda>") ar bd sc (cloFrom X.env.cells sc.names []) f c')) s' → (∀ b o, b ≠ P → H b = some o → G b = some o) → Tabs Tb G → G f = none → G c' = some (CodeO c' (X.env.qual ++ "<lambda>")) → Q (.ref f) s') :
    wpAny (model X.prog X.w) X.A (eval (.Lambda ar bd sc pos) X.env) Q E s := by
  obtain ⟨ps, hP, trip, amg⟩ := hT _ hmT
  have bI : s.heap.BuiltinsAt X.mg P := TB.bm.keeps I.bk
  have gP : s.heap.get? P = some { cls := .none, data := .fields ps } := I.hok P _ hP
  apply PySem.W.kla_eval nodef
  cases am : codeAmong pos ps.toList with
  | some cv =>
    obtain ⟨c', e, hco⟩ := amg pos cv am
    subst e
    apply PySem.W.kla_makeFunctionHit (closure_ok fr) I.ok.glob (I.mod.glob.keeps I.bk) hcode (TB.code.keeps I.bk) gP trip am bI
    intro ctv h' tk hx hsz
    have I1 : Inv X pins σ H { s with heap := h', toks := tk } := I.kept hx
    have nf : H h'.objs.size = none := I1.hok.fresh (Nat.le_refl _)
    exact k _ c' H _ (I1.laid (t' := tk) (fun b o e => Heap.get?_push_of_some _ e) (Nat.le_refl _) (LamO.ok (Heap.get?_push_size _ rfl))) (fun _ _ _ e => e) hT nf hco
  | none =>
    apply PySem.W.kla_makeFunction (closure_ok fr) I.ok.glob (I.mod.glob.keeps I.bk) hcode (TB.code.keeps I.bk) gP trip am TB.gP bI
    intro c' ctv h' tk hx ge lt rec_ tb_
    obtain ⟨c2, oc, vs, t, e2, r1, r2, r3⟩ := rec_
    cases e2
    have nC : H c' = none := I.hok.fresh ge
    have I1 := inv_table (t' := tk) (more := #[rawInt pos.line, rawInt pos.col, .ref c']) (h' := h') I hP hx tb_ ge ⟨oc, vs, t, r1, r2, r3⟩
    have hE : ExtN H (upd (upd H P (.tbl (ps ++ #[rawInt pos.line, rawInt pos.col, .ref c']))) c' (CodeO c' (X.env.qual ++ "<lambda>"))) := fun b o e n => by
      have n1 : b ≠ c' := ne_of_none e nC
      have n2 : b ≠ P := fun z => n ps (by rw [z, hP] at e; exact (Option.some.inj e).symm)
      rw [upd_ne n1, upd_ne n2]
      exact e
    have nf := I1.hok.fresh (Nat.le_refl h'.objs.size)
    have eL : (ps ++ #[rawInt pos.line, rawInt pos.col, .ref c']).toList = ps.toList ++ [rawInt pos.line, rawInt pos.col, .ref c'] := by simp
    refine k _ c' _ _ (I1.laid (t' := tk) (fun b o e => Heap.get?_push_of_some _ e) (Nat.le_refl _) (LamO.ok (Heap.get?_push_size _ rfl))) (fun b o nb e => by rw [upd_ne (ne_of_none e nC), upd_ne nb]; exact e) (fun p hp => ?_) nf upd_same
    by_cases eP : p.1 = P
    · rw [one p hp eP, eP]
      refine ⟨_, by rw [upd_ne (ne_of_none hP nC), upd_same], by rw [eL]; exact PySem.TriplesOk_snoc _ _ _ _ trip, fun p' cv hcv => ?_⟩
      rw [eL] at hcv
      rcases among_app _ trip hcv with z | z
      · obtain ⟨c0, e1, e2⟩ := amg p' cv z
        exact ⟨c0, e1, hE _ _ e2 codeO_ne⟩
      · exact ⟨c', z, upd_same⟩
    · obtain ⟨qs, a1, a2, a3⟩ := hT p hp
      refine ⟨qs, by rw [upd_ne (ne_of_none a1 nC), upd_ne eP]; exact a1, a2, fun p' cv hcv => ?_⟩
      obtain ⟨c0, e1, e2⟩ := a3 p' cv hcv
      exact ⟨c0, e1, hE _ _ e2 codeO_ne⟩
end
/-- lambda: .. -/
def tLamK (P : Addr) (Tb : List (Addr × Str)) (q : Str) (ar : Arguments) (bd : Expr) (sc : Scope) (cl : List (Str × Addr)) : TE := fun _ H Q => Tabs Tb H ∧ ∀ f c' G, (∀ b o, b ≠ P → H b = some o → G b = some o) → Tabs Tb G → G f = none → G c' = some (CodeO c' q) → Q (.ref f) (upd G f (LamO q ar bd sc cl f c'))
theorem pe_lamK {X : Cx} {Tb : List (Addr × Str)} {c P : Addr} {ar : Arguments} {bd : Expr} {sc : Scope} {pos : Pos} (TB : TabB X.base X.mg c P) (hcode : X.env.code = .ref c) (hmT : (P, X.env.qual ++ "<lambda>") ∈ Tb)
    (one : ∀ p ∈ Tb, p.1 = P → p.2 = X.env.qual ++ "<lambda>") (nodef : defaultsOf ar X.env = ([], [])) (Ls : LamS X.env.scope sc) :
    PE X (.Lambda ar bd sc pos) (tLamK P Tb (X.env.qual ++ "<lambda>") ar bd sc (cloFrom X.env.cells sc.names [])) := by
  refine ⟨fun pins s σ H Q I ⟨hT, h⟩ => lam_kept TB hcode hmT one nodef (Ls.has I.ok) I hT fun f c' G s' I1 eN T1 nf hc => ?_⟩
  exact ⟨.ref f, _, I1, rfl, h f c' G eN T1 nf hc⟩
/-! the base, grown by a frame's cells: who is called from the frame leaves them -/
open Classical in
/-- what is not to be in it -/
noncomputable def offB (X : Cx) : Hp := fun b => if (∃ o, X.base.get? b = some o) ∨ ∃ y, X.env.cells.lookup y = some b then none else some (.lst [])
noncomputable def growB (X : Cx) (h : Heap) : Heap := hidT h (offB X)
/-- base, and the frame's cells as they are at s -/
structure Grown (X : Cx) (s : Shared) (B : Heap) : Prop where
  bs : ∀ b o, X.base.get? b = some o → B.get? b = some o
  cells : ∀ y c o, X.env.cells.lookup y = some c → s.heap.get? c = some o → B.get? c = some o
section
variable {X : Cx} {pins : List (Addr × Obj)} {σ : L2.St} {H : Hp} {s : Shared}
theorem grown (I : Inv X pins σ H s) : Grown X s (growB X s.heap) := by
  refine ⟨fun b o e => hidT_get (I.bk b o e) ?_, fun y c o e h => hidT_get h ?_⟩
  · exact if_pos (.inl ⟨o, e⟩)
  · exact if_pos (.inr ⟨y, e⟩)
theorem grown_env0 (I : Inv X pins σ H s) (own : ∀ y, X.fn y = true) : Env0 X.prog X.w X.K X.mg (growB X s.heap) X.A X.stack s H := by
  have e0 := I.env0
  have gr := grown I
  have back : ∀ b o, (growB X s.heap).get? b = some o → s.heap.get? b = some o ∧ ((∃ o, X.base.get? b = some o) ∨ ∃ y, X.env.cells.lookup y = some b) := fun b o e => by
    obtain ⟨e1, n⟩ := of_hidT e
    refine ⟨e1, ?_⟩
    by_cases z : (∃ o, X.base.get? b = some o) ∨ ∃ y, X.env.cells.lookup y = some b
    · exact z
    · have : offB X b = some (.lst []) := if_neg z
      rw [this] at n
      cases n
  obtain ⟨mb, hb, hx⟩ := e0.mod.blt
  refine ⟨e0.frames, ⟨e0.mod.kin.keeps gr.bs, e0.mod.glob.keeps gr.bs, ⟨mb, hb.keeps gr.bs, hx⟩, e0.mod.nolimit.keeps gr.bs⟩, fun b o e => ?_, by unfold growB; rw [hidT_size]; exact Nat.le_refl _, ?_, e0.frf, e0.hok, e0.bare⟩
  · obtain ⟨e1, ⟨o', e2⟩ | ⟨y, e2⟩⟩ := back b o e
    · exact ⟨e1, (e0.bs b o' e2).2⟩
    · exact ⟨e1, I.freeC y b e2⟩
  · -- frames are neither of the base nor cells
    have nocell : ∀ y c, X.env.cells.lookup y = some c → c ∉ frs X.stack := fun y c e z => by
      rcases List.mem_cons.mp (I.stkSub c z) with q | q
      · exact I.cne y c e q
      · have h1 := I.ok.cab y c (own y) e
        obtain ⟨_, o, ho, _⟩ := I.ok.funs.mem q
        exact absurd (Nat.lt_of_lt_of_le (Heap.lt_size ho) h1) (Nat.lt_irrefl _)
    have all : ∀ l : List Env, (∀ b ∈ frs l, b ∈ frs X.stack) → s.heap.FunFrames X.base l → s.heap.FunFrames (growB X s.heap) l := by
      intro l
      induction l with
      | nil => intro _ _; trivial
      | cons e r ih =>
        rintro sub ⟨hk, ⟨L, o, hf, hn, ho, hd⟩, hr⟩
        have mem : frs (e :: r) = L :: frs r := by unfold frs; rw [List.filterMap_cons, hf]
        refine ⟨hk, ⟨L, o, hf, ?_, ho, hd⟩, ih (fun b hb => sub b (by rw [mem]; exact List.mem_cons_of_mem _ hb)) hr⟩
        cases q : (growB X s.heap).get? L with
        | none => rfl
        | some o' =>
          exfalso
          obtain ⟨_, ⟨o2, e2⟩ | ⟨y, e2⟩⟩ := back L o' q
          · rw [hn] at e2; cases e2
          · exact nocell y L e2 (sub L (by rw [mem]; exact List.mem_cons_self))
    exact all X.stack (fun _ h => h) e0.funs
end
/-- the frame X over another base -/
abbrev onB (X : Cx) (B : Heap) : Cx := { X with base := B }
/-- what calling the lambda at f comes to -/
def Acts (P : Program) (w : World) (K : PySem.W.Frag) (mg : Str → Option Value) (B : Heap) (f c' : Addr) (q : Str) (k : Nat) (O : HO) (tl : XK → Hp → VK → Prop) : Prop :=
  ∀ (Ar : Around) (outer : List Env) (s1 : Shared) (J : Hp) (Q : VK) (E : XK), Room (k + 1) Ar → Env0 P w K mg B Ar outer s1 J → J f = some O → J c' = some (CodeO c' q) → tl E J Q →
    codeAny (model P w) Ar (.call (.ref f) ⟨[], []⟩) (CR (L2N.CX P w) outer P w J s1 Q E) s1
/-- the lambda's frame begins: the cells are as they were -/
theorem lam_begin {X : Cx} {pins : List (Addr × Obj)} {σ : L2.St} {H J : Hp} {s s1 : Shared} {B : Heap} {Ar : Around} {outer : List Env} {E : XK} {sc : Scope} {f c' : Addr} {h₁ : Heap} {tk : Nat} (I : Inv X pins σ H s) (gr : Grown X s B) (Ls : LamS X.env.scope sc)
    (e0 : Env0 X.prog X.w X.K X.mg B Ar outer s1 J) (hh : Ar.handled = none) (hns : h₁.Ns s1.heap.objs.size fun y => ([] : List (Str × Value)).reverse.lookup y) (kp : ∀ b o, s1.heap.get? b = some o → h₁.get? b = some o) :
    Inv (lamCx (onB X B) Ar outer s1 J E sc f c') [] σ J { s1 with heap := h₁, toks := tk } := by
  have fr := Ls.has I.ok
  have toX : ∀ {y c}, (cloFrom X.env.cells sc.names []).lookup y = some c → X.env.cells.lookup y = some c := fun {y c} e => by
    rcases cloFrom_mem (PySem.mem_of_lookup e) with z | ⟨z1, z2⟩
    · cases z
    · obtain ⟨c1, hc⟩ := fr _ z1 rfl
      have hc : X.env.cells.lookup y = some c1 := hc
      rw [z2, hc]
      simp
  have ofX : ∀ {y}, sc.names.lookup y = some .free → ∃ c, (cloFrom X.env.cells sc.names []).lookup y = some c := fun {y} e => mem_lookup (cloFrom_has (cells := X.env.cells) (acc := []) (PySem.mem_of_lookup e))
  have stay : ∀ {y c} {v : Option Value}, X.env.cells.lookup y = some c → s.heap.IsCell c v → h₁.IsCell c v ∧ J c = none := fun {y c v} e ⟨o, ho, hd⟩ => by
    obtain ⟨h1, h2⟩ := e0.bs c o (gr.cells y c o e ho)
    exact ⟨⟨o, kp _ _ h1, hd⟩, h2⟩
  have noX : ∀ b : Addr, b ∉ ([] : List Addr) := fun b z => nomatch z
  refine ⟨⟨e0.mod, Ls.kind, rfl, rfl, Nat.le_refl _, fun x y c h1 h2 => I.ok.inj x y c (toX h1) (toX h2), fun y hy => ?_, (fun y c z _ => by cases (show false = true from z)), fun _ => hh, Around.frames_deeper e0.frames, .inr ⟨rfl, rfl⟩, fun b z => absurd z (noX b), e0.bs, e0.bsz, fun b _ _ => noX b, fun b z => absurd z (noX b), e0.funs, e0.frf⟩,
    rfl, e0.bare, Un.kept kp, ⟨_, hns, fun i y v h1 h2 h3 => ?_⟩, fun y c e => ?_, e0.hok.fresh (Nat.le_refl _), fun y c e => ?_, fun q hq => absurd (show q ∈ ([] : List (Addr × Obj)) from hq) (fun z => nomatch z), e0.hok.kept kp, I.len⟩
  · have hy : sc.names.lookup y = some .cell ∨ sc.names.lookup y = some .free := hy
    exact hy.elim (fun z => absurd rfl (Ls.own _ (PySem.mem_of_lookup z)).2) ofX
  · have h3 : Vis sc y := h3
    rcases h3 with z | z | z
    · exact absurd rfl (Ls.own _ (PySem.mem_of_lookup z)).1
    · exact absurd rfl (Ls.own _ (PySem.mem_of_lookup z)).2
    · have z0 := Ls.free _ (PySem.mem_of_lookup z) rfl
      obtain ⟨m, hn, hl⟩ := I.loc
      obtain ⟨u, r, q⟩ := hl i y v h1 h2 (z0.elim (fun k => .inr (.inl k)) fun k => .inr (.inr k))
      obtain ⟨c2, e2⟩ := ofX z
      refine ⟨u, r, .inr ⟨.inr z, c2, e2, ?_⟩⟩
      rcases q with ⟨q, _⟩ | ⟨_, c3, e3, q⟩
      · have q : X.env.scope.names.lookup y = some .local := q
        rcases z0 with z0 | z0 <;> rw [show X.env.scope.names.lookup y = _ from z0] at q <;> cases q
      · have := toX e2
        rw [e3] at this
        cases this
        exact (stay e3 q).1
  · obtain ⟨v, z⟩ := I.cell y c (toX e)
    exact ⟨v, (stay (toX e) z).1⟩
  · obtain ⟨v, z⟩ := I.cell y c (toX e)
    exact (stay (toX e) z).2
theorem acts_of {X : Cx} {pins : List (Addr × Obj)} {σ : L2.St} {H : Hp} {s : Shared} {B : Heap} {f c' : Addr} {ar : Arguments} {bd : Expr} {sc : Scope} {k : Nat} {tb : XK → TE} (I : Inv X pins σ H s) (gr : Grown X s B) (Ls : LamS X.env.scope sc)
    (hb0 : ∀ (q : Str) (cl : List (Str × Addr)) (pm cv ctv : Value), bindArgs (PySem.W.kla_fn "<lambda>" q ar bd sc cl pm cv ctv) ⟨[], []⟩ = pure [])
    (hbody : ∀ (Ar : Around) (outer : List Env) (t : Shared) (G : Hp) (E : XK), Room k (Ar.deeper (lamEnv X sc t.heap.objs.size f c')) → PE (lamN (onB X B) Ar outer t G E sc f c') bd (tb E)) :
    Acts X.prog X.w X.K X.mg B f c' (X.env.qual ++ "<lambda>") k (LamO (X.env.qual ++ "<lambda>") ar bd sc (cloFrom X.env.cells sc.names []) f c') (fun E J R => tb E σ J R) := by
  intro Ar outer s1 J Q E hr e0 hf hc ht
  obtain ⟨⟨pm, ctv, of1⟩, _, _⟩ := e0.hok f _ hf
  obtain ⟨⟨oc, vs, t, a1, a2, a3⟩, _, _⟩ := e0.hok c' _ hc
  have lim : s1.heap.NoLimit := e0.mod.nolimit.keeps fun b o e => (e0.bs b o e).1
  apply PySem.W.kla_callFunE hr.depth of1 rfl Ls.co Ls.gen rfl ⟨c', oc, vs, t, rfl, a1, a2, a3⟩
  rw [hb0]
  refine wpAny_pure (wpAny_newFunctionEnv (fun y hy => (Ls.own y hy).2) (fun y hy => absurd hy (by simp)) (fun h₁ hns hsb => ⟨lim.fresh _ hsb, ?_⟩) Ls.kind)
  have kp : ∀ b o, s1.heap.get? b = some o → h₁.get? b = some o := fun b o e => hsb.extBut b o (Nat.ne_of_lt (Heap.lt_size e)) (Heap.get?_push_of_some _ e)
  have J0 := lam_begin (E := E) (tk := s1.toks + ([] : List (Str × Value)).length) (f := f) (c' := c') I gr Ls e0 hr.hd hns kp
  have J1 : Inv (lamN (onB X B) Ar outer s1 J E sc f c') [] σ J _ := J0.wish _
  show codeAny _ _ (.expr bd (lamEnv X sc s1.heap.objs.size f c')) _ _
  refine PySem.W.kla_codeExpr (wpAny_mono ((hbody _ _ s1 J E (hr.deeper _)).run [] _ _ J Q J1 ht) (fun v s' ⟨w', G', J', rv, q⟩ => ?_) fun e s' hq => hq)
  exact ⟨w', G', J'.os, J'.bare, J'.base, J'.hok, rv, q⟩
/-- what a lambda of the frame X, by its text, comes to -/
def LamOk (X : Cx) (k : Nat) (ar : Arguments) (bd : Expr) (sc : Scope) (tb : XK → TE) : Prop :=
  LamS X.env.scope sc ∧ (∀ (q : Str) (cl : List (Str × Addr)) (pm cv ctv : Value), bindArgs (PySem.W.kla_fn "<lambda>" q ar bd sc cl pm cv ctv) ⟨[], []⟩ = pure []) ∧
  ∀ B, (∀ b o, X.base.get? b = some o → B.get? b = some o) → ∀ (Ar : Around) (outer : List Env) (t : Shared) (G : Hp) (E : XK) (f c' : Addr), Room k (Ar.deeper (lamEnv X sc t.heap.objs.size f c')) → PE (lamN (onB X B) Ar outer t G E sc f c') bd (tb E)
/-- at f is a lambda of the frame X, that comes to tb -/
def WorkAt (X : Cx) (k : Nat) (tb : XK → TE) (H : Hp) (f : Addr) : Prop := ∃ c' ar bd sc, H c' = some (CodeO c' (X.env.qual ++ "<lambda>")) ∧ H f = some (LamO (X.env.qual ++ "<lambda>") ar bd sc (cloFrom X.env.cells sc.names []) f c') ∧ LamOk X k ar bd sc tb
def tWork (X : Cx) (P : Addr) (Tb : List (Addr × Str)) (k : Nat) (tb : XK → TE) : TE := fun _ H Q => Tabs Tb H ∧ ∀ f G, (∀ b o, b ≠ P → H b = some o → G b = some o) → Tabs Tb G → WorkAt X k tb G f → Q (.ref f) G
theorem pe_work {X : Cx} {Tb : List (Addr × Str)} {c P : Addr} {k : Nat} {ar : Arguments} {bd : Expr} {sc : Scope} {tb : XK → TE} {pos : Pos} (TB : TabB X.base X.mg c P) (hcode : X.env.code = .ref c) (hmT : (P, X.env.qual ++ "<lambda>") ∈ Tb)
    (one : ∀ p ∈ Tb, p.1 = P → p.2 = X.env.qual ++ "<lambda>") (nodef : defaultsOf ar X.env = ([], [])) (ok : LamOk X k ar bd sc tb) : PE X (.Lambda ar bd sc pos) (tWork X P Tb k tb) := by
  refine ⟨fun pins s σ H Q I ⟨hT, h⟩ => (pe_lamK TB hcode hmT one nodef ok.1).run pins s σ H Q I ⟨hT, fun f c' G eN T1 nf hc => ?_⟩⟩
  refine h f _ (fun b o nb e => ?_) (tabs_more T1 nf) ⟨c', ar, bd, sc, ?_, upd_same, ok⟩
  · rw [upd_ne (ne_of_none (eN b o nb e) nf)]
    exact eN b o nb e
  · rw [upd_ne (ne_of_none hc nf)]
    exact hc
/-- x(): x is a name that holds the lambda -/
theorem pe_act {X : Cx} {i k : Nat} {a : Str} {W : WX} {E : XK} {p1 p2 : Pos} (tk : L2N.Takes X W) (hW : ∀ cls d τ G, E cls d G → W cls d τ G) (hr : Room (k + 1) X.A)
    (hN : X.N[i]? = some a) (hv : Vis X.env.scope a) (hd : (a == ("__debug__" : Str)) = false := by decide) (hcd : (a == ("__classdict__" : Str)) = false := by decide) :
    PE X (.Call (.Name a p1) [] [] p2) (fun τ G Q => ∃ f c' q q' ar bd sc cl tl, τ[i]? = some (some (.ref f)) ∧ G c' = some (CodeO c' q) ∧ G f = some (LamO q' ar bd sc cl f c') ∧ Acts X.prog X.w X.K X.mg X.base f c' q k (LamO q' ar bd sc cl f c') tl ∧ tl E G Q) := by
  refine ⟨fun pz sz τ G Q IZ ⟨f, c', q, q', ar, bd, sc, cl, tl, hs, hc, hf, ac, ht⟩ => wpAny_Call_Name_kw (thn ((pe_var (pos := p1) (i := i) hN hv hd hcd).run pz sz τ G (fun v J => v = .ref f ∧ J = G) IZ ⟨.ref f, hs, rfl, rfl⟩) fun u s1 ⟨v, J, I1, r1, ev, eJ⟩ => ?_)⟩
  subst ev eJ
  cases (show u = Value.ref f from r1)
  obtain ⟨pm, ctv, of1⟩ : ∃ pm ctv, s1.heap.get? f = some (PySem.W.kla_obj "<lambda>" q' ar bd sc cl pm c' ctv) := (I1.hok f _ hf).1
  refine PySem.W.callWith_F0 ⟨_, _, _, _, of1⟩ ?_
  refine wpAny_call (codeAny_mono (ac _ _ s1 J Q E hr I1.env0 hf hc ht) fun r s' hq => ?_)
  match r, hq with
  | .error e, hq => exact L2N.passes_call tk hW pz τ J s1 e s' I1 hq
  | .ok (.ret u), hq => exact I1.after hq
  | .ok .next, hq => exact False.elim hq
  | .ok .brk, hq => exact False.elim hq
  | .ok .cont, hq => exact False.elim hq
/-- x(e, ..) where x's promise is wanted over the base that has this frame's cells -/
theorem pe_callG {X : Cx} {k : Nat} {f : Addr} {ps : List Str} {sp : Heap → Sp} {x : Str} {p pos : Pos} {e : Expr} {es : List Expr} {t : TA} {R : L2.St → List V → Hp → VK → Prop}
    (F : ∀ B, (∀ b o, X.base.get? b = some o → B.get? b = some o) → ∃ fd, FnOk X.prog X.w X.K X.mg B CX0 k f fd ps (sp B) ∧ Binds X.K fd ps [])
    (own : ∀ y, X.fn y = true) (hr : Room k X.A) (hg : Gl X x) (hm : X.mg x = some (.ref f)) (hk : PySem.W.keepIn X.K (.ref f) = true)
    (ha : PA X (e :: es) t) (hR : ∀ pins σ H s B vs Q, Inv X pins σ H s → Grown X s B → R σ vs H Q → sp B vs H Q E0)
    (hdb : (x == ("__debug__" : Str)) = false := by decide) (he : starEach (e :: es) X.env = (false, eval e X.env) :: starEach es X.env := by rfl) (hpl : (backTo pos (starEach es X.env)).any (·.1) = false := by rfl) :
    PE X (.Call (.Name x p) (e :: es) [] pos) (fun σ H Q => t σ H fun vs G => R σ vs G Q) := by
  refine ⟨fun pins s σ H Q I h => wpAny_Call_Name_kw (ld_glob I hg hm (PySem.W.callWith_K (h₀ := X.base) I.ok.mod.kin hk (thn (ha.run pos pins s σ H _ I h) fun us s1 ⟨vs, H1, I1, r, q⟩ => ⟨I1.kIn, ?_⟩) he hpl) hdb)⟩
  have gr := grown I1
  obtain ⟨fd, Fk, bk⟩ := F _ gr.bs
  have hs := hR _ _ _ _ _ _ _ I1 gr q
  have hl : us.length = ps.length := by rw [← r.length]; exact Fk.len _ _ _ _ hs
  have b := bk s1 us I1.kIn (by rw [List.append_nil]; exact hl)
  rw [List.append_nil] at b
  refine wpAny_call (codeAny_mono (Fk.run X.A X.stack s1 H1 ⟨us, []⟩ us vs Q E0 hr (grown_env0 I1 own) b r hs) fun r s' hq => ?_)
  match r, hq with
  | .error e, hq => exact (show False from hq).elim
  | .ok (.ret u), hq => exact I1.after hq
  | .ok .next, hq => exact False.elim hq
  | .ok .brk, hq => exact False.elim hq
  | .ok .cont, hq => exact False.elim hq
end K5

set_option Elab.async false
set_option linter.all false
set_option maxRecDepth 100000
set_option maxHeartbeats 4000000
namespace S02
open PySem PySem.Spec PyProof.Rows L2 L2H LamX K5 SupX GenX
/-! ### the class of a refusal -/
/-- D is just the j-th of the twelve classes -/
structure Cis (K : PySem.W.Frag) (A : Ad) (D : Addr) (j : Nat) : Prop where
  ex : ExcC K D
  lt : j < 12
  is : ∀ i, i < 12 → PySem.W.kitOne K (.ref D) (.ref (A.c (i + 2))) = some (decide (i = j))
  ve : PySem.W.kitOne K (.ref D) (.type "ValueError") = some true
def clsW : List Str := ["BadDeal", "BadHand", "BadLetter", "BadTime", "BadKey", "BadHouse", "NoCopy", "Behind", "BadBlock", "BadEntry", "BadText", "Stopped"]
def bsJ (j : Nat) : List Bool := [decide (0 = j), decide (1 = j), decide (2 = j), decide (3 = j), decide (4 = j), decide (5 = j), decide (6 = j), decide (7 = j), decide (8 = j), decide (9 = j), decide (10 = j), decide (11 = j)]
theorem bsJ_count : ∀ j, j < 12 → decide (V.int ((bsJ j).count true : Nat) = V.int 1) = true := by decide
theorem bsJ_at : ∀ j, j < 12 → (bsJ j)[j]? = some true ∧ ∀ m, m < j → (bsJ j)[m]? = some false := by decide
/-- isinstance(e, c): e is the pinned exception, with a dict or without -/
def rIsE2 (K : PySem.W.Frag) (D : Addr) (d : Option Addr) (a : Addr) : List V → Hp → VK → Prop := fun xs H Q => ∃ (c : V) (cv : Value) (b : Bool), xs = [.ref a, c] ∧ (∀ u, RelV c u → u = cv) ∧ PySem.W.kitOne K (.ref D) cv = some b ∧ (∀ dd, d = some dd → ∃ fs, H dd = some (.xd fs)) ∧ Q (.bl b) H
theorem isE2 {X : Cx} {p : Addr × Obj} {D : Addr} {d : Option Addr} (C : ExcC X.K D) (hp : p ∈ X.pn) (hz : Zc (.ref D) d p.2) (hf : ∃ vs, p.2.data = .fields vs) : CallR X (.builtin "isinstance") (rIsE2 X.K D d p.1) := by
  intro pins s σ H xs us Q I r ⟨c, cv, b, ex, hcv, e, hd, q⟩
  subst ex
  obtain ⟨u1, u2, eu, r1, r2⟩ := vals2 r
  subst eu
  cases r1
  cases hcv _ r2
  obtain ⟨vs, hv⟩ := hf
  have hget := (I.pin p (List.mem_append_left _ hp)).1
  obtain ⟨od, J⟩ : ∃ od, PySem.W.InstAt s.heap p.1 p.2 D od := by
    cases d with
    | none => exact ⟨none, hget, hz.1, by unfold PySem.W.notCls; rw [hv] <;> rfl, by rw [hz.2]; trivial⟩
    | some dd =>
      obtain ⟨fs, ea⟩ := hd dd rfl
      have hx : ObjOk X.prog X.w H s.heap dd (.xd fs) := I.hok dd _ ea
      obtain ⟨mA, hns, hr⟩ := hx
      obtain ⟨od, ho, hl⟩ := lookIn_ns hns
      exact ⟨some od, hget, hz.1, by unfold PySem.W.notCls; rw [hv] <;> rfl, by rw [hz.2]; exact ho⟩
  obtain ⟨cdD, hcD, _⟩ := PySem.W.any_some C.hd
  exact PySem.W.kia_one (PySem.W.kitx_exc (by rw [hcD]; rfl) C.hg C.hk C.hs C.ha C.hn C.ht C.hm) I.kIn J e nofun fun tk => ⟨.bl b, H, I.tok tk, rfl, q⟩
section
variable {P : Program} {w : World} {K : PySem.W.Frag} {mg : Str → Option Value} {base : Heap} {A : Ad}
theorem scclass : FnScope ["_law_e", "_law_kinds", "_law_words"] ["_law_e"] (defScope s_class) := ⟨rfl, rfl, rfl, by decide +kernel, rfl, by decide +kernel, by decide +kernel⟩
theorem class_body (T : Txt K mg A) {cdv : Value} {Ar : Around} {outer : List Env} {s : Shared} {H : Hp} {E : XK} {p : Addr × Obj} {D : Addr} {j : Nat} {Q : VK} (C : Cis K A D j) {d : Option Addr} (hz : Zc (.ref D) d p.2) (hf : ∃ vs, p.2.data = .fields vs) (hdF : ∀ G, Kp No H G → ∀ dd, d = some dd → ∃ fs, G dd = some (.xd fs)) (hu : Ar.units + 64 < cLine)
    (k : ∀ (x : Str) (G : Hp), clsW[j]? = some x → Kp No H G → Q (.str x) G) :
    ∃ t, PSs (L2H.cxH L2.CX0 P w K mg base ["_law_e", "_law_kinds", "_law_words"] "_law_class" (defScope s_class) (A.d 37) cdv Ar outer s H E p) (defBody s_class) t ∧ t { nx := fun _ G => Q .non G, rt := Q } (L2.start ["_law_e", "_law_kinds", "_law_words"] [.ref p.1]) H := by
  have IS : CallR (L2H.cxH L2.CX0 P w K mg base ["_law_e", "_law_kinds", "_law_words"] "_law_class" (defScope s_class) (A.d 37) cdv Ar outer s H E p) (.builtin "isinstance") (rIsE2 K D d p.1) := isE2 C.ex (List.mem_singleton.mpr rfl) hz hf
  refine ⟨_, (pss_cons (ps_set (i := 1) scclass.nd rfl (Or.inl rfl) (pe_lst (pa_cons (pe_callB IS (by rfl) T.isinstance (by decide +kernel) (pa_cons (pv 0) (pa_cons (pe_glob (v := .ref (A.c 2)) rfl T.c_BadDeal rfl) pa_nil))) (pa_cons (pe_callB IS (by rfl) T.isinstance (by decide +kernel) (pa_cons (pv 0) (pa_cons (pe_glob (v := .ref (A.c 3)) rfl T.x_BadHand.at_ rfl) pa_nil))) (pa_cons (pe_callB IS (by rfl) T.isinstance (by decide +kernel) (pa_cons (pv 0) (pa_cons (pe_glob (v := .ref (A.c 4)) rfl T.x_BadLetter.at_ rfl) pa_nil))) (pa_cons (pe_callB IS (by rfl) T.isinstance (by decide +kernel) (pa_cons (pv 0) (pa_cons (pe_glob (v := .ref (A.c 5)) rfl T.x_BadTime.at_ rfl) pa_nil))) pa_nil))))))
      (pss_cons (ps_set (i := 1) scclass.nd rfl (Or.inl rfl) (pe_op op_cat (pv 1) (pe_lst (pa_cons (pe_callB IS (by rfl) T.isinstance (by decide +kernel) (pa_cons (pv 0) (pa_cons (pe_glob (v := .ref (A.c 6)) rfl T.x_BadKey.at_ rfl) pa_nil))) (pa_cons (pe_callB IS (by rfl) T.isinstance (by decide +kernel) (pa_cons (pv 0) (pa_cons (pe_glob (v := .ref (A.c 7)) rfl T.x_BadHouse.at_ rfl) pa_nil))) (pa_cons (pe_callB IS (by rfl) T.isinstance (by decide +kernel) (pa_cons (pv 0) (pa_cons (pe_glob (v := .ref (A.c 8)) rfl T.x_NoCopy.at_ rfl) pa_nil))) (pa_cons (pe_callB IS (by rfl) T.isinstance (by decide +kernel) (pa_cons (pv 0) (pa_cons (pe_glob (v := .ref (A.c 9)) rfl T.c_Behind rfl) pa_nil))) pa_nil)))))))
      (pss_cons (ps_set (i := 1) scclass.nd rfl (Or.inl rfl) (pe_op op_cat (pv 1) (pe_lst (pa_cons (pe_callB IS (by rfl) T.isinstance (by decide +kernel) (pa_cons (pv 0) (pa_cons (pe_glob (v := .ref (A.c 10)) rfl T.x_BadBlock.at_ rfl) pa_nil))) (pa_cons (pe_callB IS (by rfl) T.isinstance (by decide +kernel) (pa_cons (pv 0) (pa_cons (pe_glob (v := .ref (A.c 11)) rfl T.x_BadEntry.at_ rfl) pa_nil))) (pa_cons (pe_callB IS (by rfl) T.isinstance (by decide +kernel) (pa_cons (pv 0) (pa_cons (pe_glob (v := .ref (A.c 12)) rfl T.c_BadText rfl) pa_nil))) (pa_cons (pe_callB IS (by rfl) T.isinstance (by decide +kernel) (pa_cons (pv 0) (pa_cons (pe_glob (v := .ref (A.c 13)) rfl T.x_Stopped.at_ rfl) pa_nil))) pa_nil)))))))
      (pss_cons (ps_set (i := 2) scclass.nd rfl (Or.inl rfl) (pe_lst (pa_cons pe_str (pa_cons pe_str (pa_cons pe_str (pa_cons pe_str (pa_cons pe_str (pa_cons pe_str (pa_cons pe_str (pa_cons pe_str (pa_cons pe_str pa_nil)))))))))))
      (pss_cons (ps_set (i := 2) scclass.nd rfl (Or.inl rfl) (pe_op op_cat (pv 2) (pe_lst (pa_cons pe_str (pa_cons pe_str (pa_cons pe_str pa_nil))))))
      (pss_one (ps_ret (pe_ifExp (PW.pt (pw_and (pt_cmpR op_eq (pe_bm PySem.F.plainAttrs_list PySem.F.slot_list_count PySem.F.type_list_count mt_cntB (pv 1) (pa_cons pe_bl pa_nil)) pe_int (nomark _)) (pw_and1 (pt_val (pe_callB IS (by rfl) T.isinstance (by decide +kernel) (pa_cons (pv 0) (pa_cons (pe_bltn (v := .ty "ValueError") (by rfl) T.ValueError (by decide +kernel) rfl) pa_nil))))))) (pe_ix ix_list (pv 2) (pe_bm PySem.F.plainAttrs_list PySem.F.slot_list_index PySem.F.type_list_index mt_index (pv 1) (pa_cons pe_bl pa_nil)) (fun _ _ => rfl)) pe_str)))))))), ?_⟩
  refine ⟨_, rfl, .ref (A.c 2), .ref (A.c 2), _, rfl, (fun u e => e), C.is 0 (by decide), (hdF _ (Kp.refl _ _)), _, rfl, .ref (A.c 3), .ref (A.c 3), _, rfl, (fun u e => e), C.is 1 (by decide), (hdF _ (Kp.refl _ _)), _, rfl, .ref (A.c 4), .ref (A.c 4), _, rfl, (fun u e => e), C.is 2 (by decide), (hdF _ (Kp.refl _ _)), _, rfl, .ref (A.c 5), .ref (A.c 5), _, rfl, (fun u e => e), C.is 3 (by decide), (hdF _ (Kp.refl _ _)), sz 4 (by decide), fun l1 n1 => ?_⟩
  refine ⟨_, rfl, _, rfl, .ref (A.c 6), .ref (A.c 6), _, rfl, (fun u e => e), C.is 4 (by decide), (hdF _ (Kp.new n1)), _, rfl, .ref (A.c 7), .ref (A.c 7), _, rfl, (fun u e => e), C.is 5 (by decide), (hdF _ (Kp.new n1)), _, rfl, .ref (A.c 8), .ref (A.c 8), _, rfl, (fun u e => e), C.is 6 (by decide), (hdF _ (Kp.new n1)), _, rfl, .ref (A.c 9), .ref (A.c 9), _, rfl, (fun u e => e), C.is 7 (by decide), (hdF _ (Kp.new n1)), sz 4 (by decide), fun l2 n2 => ?_⟩
  refine ⟨l1, l2, _, _, rfl, rfl, (upd_ne (ne_of_none upd_same n2)).trans upd_same, upd_same, sz 8 (by decide), fun l3 n3 => ?_⟩
  refine ⟨_, rfl, _, rfl, .ref (A.c 10), .ref (A.c 10), _, rfl, (fun u e => e), C.is 8 (by decide), (hdF _ (((Kp.new n1).andN n2).andN n3)), _, rfl, .ref (A.c 11), .ref (A.c 11), _, rfl, (fun u e => e), C.is 9 (by decide), (hdF _ (((Kp.new n1).andN n2).andN n3)), _, rfl, .ref (A.c 12), .ref (A.c 12), _, rfl, (fun u e => e), C.is 10 (by decide), (hdF _ (((Kp.new n1).andN n2).andN n3)), _, rfl, .ref (A.c 13), .ref (A.c 13), _, rfl, (fun u e => e), C.is 11 (by decide), (hdF _ (((Kp.new n1).andN n2).andN n3)), sz 4 (by decide), fun l4 n4 => ?_⟩
  refine ⟨l3, l4, _, _, rfl, rfl, (upd_ne (ne_of_none upd_same n4)).trans upd_same, upd_same, sz 12 (by decide), fun l5 n5 => ?_⟩
  refine ⟨sz 9 (by decide), fun w1 m1 => ?_⟩
  refine ⟨_, rfl, sz 3 (by decide), fun w2 m2 => ?_⟩
  refine ⟨w1, w2, _, _, rfl, rfl, (upd_ne (ne_of_none upd_same m2)).trans upd_same, upd_same, sz 12 (by decide), fun w3 m3 => ?_⟩
  have b0 : Kp No (upd _ l5 (.lst ((bsJ j).map V.bl))) _ := ((Kp.new (F := No) m1).andN m2).andN (o' := .lst (clsW.map V.str)) m3
  have hk := b0.t.lst upd_same fun z => z
  have kp : Kp No H _ := (((((((Kp.new (F := No) n1).andN n2).andN n3).andN n4).andN n5).andN m1).andN m2).andN (o' := .lst (clsW.map V.str)) m3
  have hj := C.lt
  have fl : ((bsJ j).map V.bl).all flatV = true := flat_bools _
  refine ⟨_, rfl, .inl ⟨rfl, _, SqL.of hk⟩, l5, bsJ j, rfl, rfl, SqL.of hk, rfl, _, rfl, ?_⟩
  rw [bsJ_count j hj]
  refine iteT ⟨_, rfl, ⟨.ty "ValueError", .type "ValueError", true, rfl, (fun u e => e), C.ve, (hdF _ kp), true, rfl, iteT ?_⟩⟩
  refine ⟨_, rfl, _, rfl, .inl ⟨rfl, _, SqL.of hk⟩, l5, _, .bl true, j, .bl true, rfl, rfl, SqL.of hk, rfl, fl, by rw [List.getElem?_map, (bsJ_at j hj).1]; rfl, rfl, fun m z' hm e => ?_, ?_⟩
  · rw [List.getElem?_map, (bsJ_at j hj).2 m hm] at e
    cases e
    rfl
  · obtain ⟨x, hx⟩ : ∃ x, clsW[j]? = some x := ⟨_, List.getElem?_eq_getElem hj⟩
    refine ⟨w3, clsW.map V.str, (j : Nat), .str x, rfl, rfl, SqL.of upd_same, atI_nat (by rw [List.getElem?_map, hx]; rfl), k x _ hx kp⟩
end
/-- a def called where the exception p is handled: its promise may speak of p -/
theorem run_ofP {CX : CXT} {P : Program} {w : World} {K : PySem.W.Frag} {mg : Str → Option Value} {base : Heap} {k : Nat} {f : Addr} {name qual : Str} {params : Arguments} {body : List Stmt} {scope : Scope} {dV kV doc pm cdv ct oc : Value} {an od : Option Addr} {osl : Array (Option Value)} {N ps : List Str}
    (lk : K.lookup f = some ⟨oc, od, .func (PySem.W.fnOf name qual params body scope dV kV doc pm an cdv ct), osl⟩) (hcd : PySem.W.codeIn K cdv qual = true) (S : FnScope N ps scope) {Ar : Around} {outer : List Env} {s : Shared} {H : Hp} {args : Args} {us : List Value} {vs : List V} {Q : VK} {E : XK} {p : Addr × Obj}
    (hr : RoomH (k + 1) Ar) (hpin : PinOk outer H s p) (e0 : Env0 P w K mg base Ar outer s H) (hb : BindsTo s (PySem.W.fnOf name qual params body scope dV kV doc pm an cdv ct) args (ps.zip us)) (r : Vals vs us) (hl : vs.length = ps.length)
    (hbody : RoomH k (Ar.deeper (envOfC qual scope s.heap.objs.size f cdv)) → ∃ t, PSs (cxH CX P w K mg base N qual scope f cdv Ar outer s H E p) body t ∧ t { nx := fun _ G => Q .non G, rt := Q } (L2.start N vs) H) :
    codeAny (model P w) Ar (.call (.ref f) args) (CR CX outer P w H s Q E) s := by
  have KX : K.In s.heap := e0.mod.kin.keeps fun b o e => (e0.bs b o e).1
  have lim : s.heap.NoLimit := e0.mod.nolimit.keeps fun b o e => (e0.bs b o e).1
  have kinds : ∀ y ∈ ps.zip us, scope.names.lookup y.1 = some .local ∨ (scope.names.lookup y.1 = some .cell ∧ ((cellsFrom (s.heap.objs.size + 1) scope.names []).lookup y.1).isSome = true) := fun ⟨n, v⟩ hy =>
    (S.par n (List.of_mem_zip hy).1).imp id fun q => ⟨q, PySem.W.cellsFrom_some _ _ _ (.inl q)⟩
  refine codeAny_call_function hr.depth (KX _ _ lk) rfl S.co S.gen rfl (PySem.W.codeRec_of KX hcd) (hb _ _ _ _ (wpAny_newFunctionEnv_cells S.kind kinds fun env he s1 x => ?_))
  subst he
  obtain ⟨t, ht, hq⟩ := hbody (hr.deeper _)
  refine ⟨lim.keeps x.toInCall.keep, codeAny_func (wpAny_mono (ht.run [] s1 (L2.start N vs) H _ (inv_startH S hpin e0 hl r x) hq) (fun fl s' hs => ?_) fun e s' hs => hs)⟩
  match fl, hs with
  | .ret u, ⟨v, σ', G, J, rv, q⟩ => exact ⟨v, G, J.os, J.bare, J.base, J.hok, rv, q⟩
  | .next, ⟨σ', G, J, q⟩ => exact (⟨V.non, G, J.os, J.bare, J.base, J.hok, rfl, q⟩ : CE outer P w H s Q Value.none s')
  | .brk, ⟨_, _, _, q⟩ => exact q.elim
  | .cont, ⟨_, _, _, q⟩ => exact q.elim
section
variable {P : Program} {w : World} {K : PySem.W.Frag} {mg : Str → Option Value} {base : Heap} {A : Ad}
/-- _law_class(_law_e), within the suite -/
theorem suite_class {X : Cx} {a : Addr} {oe : Obj} {pn : List (Addr × Obj)} {D : Addr} {d : Option Addr} {j : Nat} {p1 p2 pos : Pos} (T : Txt X.K X.mg A) (hg : Gl X "_law_class") (hN : X.N[1]? = some ("_law_e" : Str)) (hv : Vis X.env.scope "_law_e") (hr : Room 2 X.A)
    (C : Cis X.K A D j) (hz : L2N.Zn (.ref D) d oe) (hf : ∃ vs, oe.data = .fields vs)
    (he : starEach [.Name "_law_e" p2] X.env = (false, eval (.Name "_law_e" p2) X.env) :: starEach [] X.env := by rfl) (hpl : (backTo pos (starEach [] X.env)).any (·.1) = false := by rfl) :
    PE (X.suite a ((a, oe) :: pn)) (.Call (.Name "_law_class" p1) [.Name "_law_e" p2] [] pos) (fun σ H Q => σ[1]? = some (some (.ref a)) ∧ (∀ G, Kp No H G → ∀ dd, d = some dd → ∃ fs, G dd = some (.xd fs)) ∧ ∀ (x : Str) (G : Hp), clsW[j]? = some x → Kp No H G → Q (.str x) G) := by
  refine ⟨fun pins s σ H Q I ⟨hσ, hdF, h⟩ => wpAny_Call_Name_kw (ld_glob I hg T.class_.at_ (PySem.W.callWith_K (h₀ := X.base) I.ok.mod.kin T.class_.kp (thn ((pa_cons (pe_var (X := X.suite a ((a, oe) :: pn)) (i := 1) hN hv) pa_nil).run pos pins s σ H (fun vs G => vs = [.ref a] ∧ G = H) I ⟨_, hσ, rfl, rfl⟩) fun us s1 ⟨vs, G, I1, r, ev, eG⟩ => ⟨I1.kIn, ?_⟩) he hpl))⟩
  subst ev eG
  obtain ⟨fd, F⟩ := T.class_.fn
  have bC : Binds X.K fd ["_law_e"] [] := F.binds fun _ _ _ _ _ _ us hl => match us, hl with | [_], _ => rfl
  obtain ⟨oc, od, kV, doc, pm, an, cdv, ct, osl, rfl, lk, hcd⟩ := F.ex
  have P1 := I1.pin (a, oe) (List.mem_append_left _ List.mem_cons_self)
  have pin : PinOk X.stack G s1 (a, oe) := ⟨P1.1, P1.2.1, fun hm => (List.mem_cons.mp (I1.stkSub a hm)).elim P1.2.2.1 P1.2.2.2.1, P1.2.2.2.2⟩
  have hl : us.length = 1 := by rw [← r.length]; rfl
  have b := bC s1 us I1.kIn (by rw [List.append_nil]; exact hl)
  rw [List.append_nil] at b
  have hr1 : RoomH 2 (X.A.mark (some (.ref a))) := ⟨hr.dp, hr.un⟩
  have key : codeAny (model X.prog X.w) (X.A.mark (some (.ref a))) (.call (.ref (A.d 37)) ⟨us, []⟩) (CR L2.CX0 X.stack X.prog X.w G s1 Q L2.E0) s1 := by
    refine run_ofP (N := ["_law_e", "_law_kinds", "_law_words"]) (ps := ["_law_e"]) (p := (a, oe)) lk hcd scclass hr1 pin I1.env0 b r rfl fun hr2 => ?_
    exact class_body T C hz.zc hf hdF (by have := hr1.un; omega) h
  refine wpAny_call (codeAny_mono key fun r s' hq => ?_)
  match r, hq with
  | .error e, hq => exact (show False from hq).elim
  | .ok (.ret u), hq => exact I1.after hq
  | .ok .next, hq => exact False.elim hq
  | .ok .brk, hq => exact False.elim hq
  | .ok .cont, hq => exact False.elim hq

/-- a class of refusals by its word, and its field if it has one -/
structure Rfd (K : PySem.W.Frag) (A : Ad) (D : Addr) (wd : Str) (fd : Option Str) : Prop where
  cis : ∃ j, Cis K A D j ∧ clsW[j]? = some wd
  sk : PyData.strOk wd = true
  xm : PySem.W.exmOne K (.ref D) (.ref (A.c 1)) = some true
  no : fd = none → wd ≠ "BadDeal" ∧ wd ≠ "Behind" ∧ wd ≠ "BadText"
  fl : ∀ f, fd = some f → (wd = "BadDeal" ∧ f = "place" ∨ wd = "Behind" ∧ f = "number" ∨ wd = "BadText" ∧ f = "row") ∧ XfC K D ∧ PySem.W.findIn K (.ref D) f = some none
/-- what it holds -/
def XdAt (fd : Option Str) (v : Int) (d : Option Addr) (G : Hp) : Prop := match fd with
  | none => d = none ∧ v = 0
  | some f => ∃ dd, d = some dd ∧ G dd = some (.xd [(f, .int v)])
/-- told: the class's word, and its value -/
def TTr (D : Addr) (wd : Str) (fd : Option Str) (v : Int) : (XK → Hp → VK → Prop) → Hp → VK → Prop := fun tl H Q =>
  tl (fun cls d G => cls = .ref D ∧ XdAt fd v d G ∧ ∀ (p : Addr) (J : Hp), Kp No G J → J p = some (.tup [.str wd, .int v]) → Q (.ref p) J) H (fun _ G => Q .non G)
abbrev Nscref : List Str := ["_law_work", "_law_e", "_law_word"]
theorem scref : FnScope Nscref ["_law_work"] (defScope s_refused) := ⟨rfl, rfl, rfl, by decide +kernel, rfl, by decide +kernel, by decide +kernel⟩
def spRef (P : Program) (w : World) (K : PySem.W.Frag) (mg : Str → Option Value) (A : Ad) (kk : Nat) (B : Heap) : Sp := fun vs H Q _ => ∃ D wd fld v, Rfd K A D wd fld ∧ ∃ f c' q q' ar bd sc cl tl, vs = [.ref f] ∧ H c' = some (CodeO c' q) ∧ H f = some (LamO q' ar bd sc cl f c') ∧ Acts P w K mg B f c' q kk (LamO q' ar bd sc cl f c') tl ∧ TTr D wd fld v tl H Q
theorem ok_refused (T : Txt K mg A) {kk : Nat} (h3 : 3 ≤ kk) : ∃ fd, FnOk P w K mg base CX0 (kk + 2) (A.d 38) fd ["_law_work"] (spRef P w K mg A kk base) ∧ Binds K fd ["_law_work"] [] := by
  obtain ⟨fd, F⟩ := T.refused.fn
  refine ⟨fd, F.ok scref (fun vs H Q E h => ?_) (fun cdv Ar outer s0 H vs Q E hr h => ?_), F.binds fun _ _ _ _ _ _ us hl => match us, hl with | [_], _ => rfl⟩
  · obtain ⟨D, wd, fld, v, R, f, c', q, q', ar, bd, sc, cl, tl, rfl, _⟩ := h
    rfl
  · obtain ⟨D, wd, fld, v, R, f, c', q, q', ar, bd, sc, cl, tl, rfl, hc, hf, ac, h⟩ := h
    obtain ⟨j, C, hw⟩ := R.cis
    refine ⟨_, pss_cons (L2N.ps_try_as (i := 1) (c := .ref (A.c 1)) (Wout := fun _ _ _ _ => False)
      (tb := fun W D' σ G => ∃ Ech : XK, (∀ cls d τ J, Ech cls d J → W cls d τ J) ∧ σ[0]? = some (some (.ref f)) ∧ G c' = some (CodeO c' q) ∧ G f = some (LamO q' ar bd sc cl f c') ∧ tl Ech G (fun _ J => D'.nx σ J))
      (ts := fun a cls d D' σ G => (∃ τ : L2.St, σ = τ.set 1 (some (.ref a))) ∧ cls = .ref D ∧ XdAt fld v d G ∧ ∀ (p : Addr) (J : Hp), Kp No G J → J p = some (.tup [.str wd, .int v]) → D'.rt (.ref p) J)
      rfl rfl scref.nd rfl rfl ⟨rfl, by decide, .inl T.c_StillError⟩ takesN0 (fun W pn xe tk _ => ?_) (fun a oe cls d pn hz hf => ?_)) (pss_one (ps_ret pe_non)), ?_⟩
    · exact ⟨fun pins s' σ G D' I ⟨Ech, hW, h1, h2, h3, h4⟩ => (pss_one (ps_expr (pe_act (i := 0) (k := kk) tk hW hr rfl (.inl rfl)))).run pins s' σ G D' I ⟨f, c', q, q', ar, bd, sc, cl, tl, h1, h2, h3, ac, h4⟩⟩
    · refine ⟨fun pins s' σ G D' I ⟨⟨τ, eτ⟩, e1, e2, k⟩ => ?_⟩
      have hl : σ.length = 3 := I.len
      have hσ : σ[1]? = some (some (.ref a)) := by
        rw [eτ, List.length_set] at hl
        rw [eτ, List.getElem?_set_self (by omega)]
      obtain ⟨x0, x2, rfl⟩ : ∃ x0 x2, σ = [x0, some (.ref a), x2] := by
        match σ, hl, hσ with
        | [x0, x1, x2], _, e => exact ⟨x0, x2, by cases e; rfl⟩
      subst e1
      cases fld with
      | none =>
        obtain ⟨n1, n2, n3⟩ := R.no rfl
        obtain ⟨rfl, rfl⟩ := e2
        refine (pss_cons (ps_set (i := 2) scref.nd rfl (Or.inl rfl) (suite_class (X := (cxOf CX0 P w K mg base Nscref "_law_refused" (defScope s_refused) (A.d 38) cdv Ar outer s0 H E).nox) T rfl rfl (.inl rfl) (hr.mono (by omega)) C hz hf))
          (pss_cons (ps_if (pt_cmpR op_eq (pv 2) pe_str (nomark _)) (pss_one (ps_ret pe_never)) pss_nil)
          (pss_cons (ps_if (pt_cmpR op_eq (pv 2) pe_str (nomark _)) (pss_one (ps_ret pe_never)) pss_nil)
          (pss_one (ps_ret (pe_tup (pa_cons (pv 2) (pa_cons (pe_ifExp (pt_cmpR op_eq (pv 2) pe_str (nomark _)) pe_never pe_int) pa_nil)))))))).run pins s' _ G D' I ?_
        refine ⟨rfl, (fun _ _ _ z => by cases z), fun x J hx kJ => ?_⟩
        obtain rfl : wd = x := by rw [hw] at hx; exact Option.some.inj hx
        refine ⟨_, rfl, rfl, _, rfl, ?_⟩
        rw [show decide (V.str wd = V.str "BadDeal") = false by simpa using n1]
        refine iteF ⟨_, rfl, rfl, _, rfl, ?_⟩
        rw [show decide (V.str wd = V.str "Behind") = false by simpa using n2]
        refine iteF ⟨_, rfl, _, rfl, rfl, _, rfl, ?_⟩
        rw [show decide (V.str wd = V.str "BadText") = false by simpa using n3]
        exact iteF ⟨sz 2 (by decide), fun p np => k p _ (kJ.andN np) upd_same⟩
      | some f1 =>
        obtain ⟨wf, xf, nof⟩ := R.fl f1 rfl
        obtain ⟨dd, rfl, hdd⟩ := e2
        rcases wf with ⟨rfl, rfl⟩ | ⟨rfl, rfl⟩ | ⟨rfl, rfl⟩
        · refine (pss_cons (ps_set (i := 2) scref.nd rfl (Or.inl rfl) (suite_class (X := (cxOf CX0 P w K mg base Nscref "_law_refused" (defScope s_refused) (A.d 38) cdv Ar outer s0 H E).nox) T rfl rfl (.inl rfl) (hr.mono (by omega)) C hz hf))
            (pss_cons (ps_if (pt_cmpR op_eq (pv 2) pe_str (nomark _)) (pss_one (ps_ret (pe_tup (pa_cons (pv 2) (pa_cons (pe_xf xf nof hz.zc hf (pv 1)) pa_nil))))) pss_nil)
            (pss_cons (ps_if (pt_cmpR op_eq (pv 2) pe_str (nomark _)) (pss_one (ps_ret pe_never)) pss_nil)
            (pss_one (ps_ret pe_never))))).run pins s' _ G D' I ?_
          refine ⟨rfl, (fun J kJ d2 z => by cases z; exact ⟨_, kJ _ _ hdd fun m => nomatch m⟩), fun x J hx kJ => ?_⟩
          obtain rfl : ("BadDeal" : Str) = x := by rw [hw] at hx; exact Option.some.inj hx
          refine ⟨_, rfl, rfl, _, rfl, iteT ⟨_, rfl, _, rfl, rfl, rfl, dd, _, .int v, rfl, kJ _ _ hdd (fun m => nomatch m), rfl, sz 2 (by decide), fun t nt => ?_⟩⟩
          exact k t _ (kJ.andN nt) upd_same
        · refine (pss_cons (ps_set (i := 2) scref.nd rfl (Or.inl rfl) (suite_class (X := (cxOf CX0 P w K mg base Nscref "_law_refused" (defScope s_refused) (A.d 38) cdv Ar outer s0 H E).nox) T rfl rfl (.inl rfl) (hr.mono (by omega)) C hz hf))
            (pss_cons (ps_if (pt_cmpR op_eq (pv 2) pe_str (nomark _)) (pss_one (ps_ret pe_never)) pss_nil)
            (pss_cons (ps_if (pt_cmpR op_eq (pv 2) pe_str (nomark _)) (pss_one (ps_ret (pe_tup (pa_cons (pv 2) (pa_cons (pe_xf xf nof hz.zc hf (pv 1)) pa_nil))))) pss_nil)
            (pss_one (ps_ret pe_never))))).run pins s' _ G D' I ?_
          refine ⟨rfl, (fun J kJ d2 z => by cases z; exact ⟨_, kJ _ _ hdd fun m => nomatch m⟩), fun x J hx kJ => ?_⟩
          obtain rfl : ("Behind" : Str) = x := by rw [hw] at hx; exact Option.some.inj hx
          refine ⟨_, rfl, rfl, _, rfl, iteF ⟨_, rfl, rfl, _, rfl, iteT ⟨_, rfl, _, rfl, rfl, rfl, dd, _, .int v, rfl, kJ _ _ hdd (fun m => nomatch m), rfl, sz 2 (by decide), fun t nt => ?_⟩⟩⟩
          exact k t _ (kJ.andN nt) upd_same
        · refine (pss_cons (ps_set (i := 2) scref.nd rfl (Or.inl rfl) (suite_class (X := (cxOf CX0 P w K mg base Nscref "_law_refused" (defScope s_refused) (A.d 38) cdv Ar outer s0 H E).nox) T rfl rfl (.inl rfl) (hr.mono (by omega)) C hz hf))
            (pss_cons (ps_if (pt_cmpR op_eq (pv 2) pe_str (nomark _)) (pss_one (ps_ret pe_never)) pss_nil)
            (pss_cons (ps_if (pt_cmpR op_eq (pv 2) pe_str (nomark _)) (pss_one (ps_ret pe_never)) pss_nil)
            (pss_one (ps_ret (pe_tup (pa_cons (pv 2) (pa_cons (pe_ifExp (pt_cmpR op_eq (pv 2) pe_str (nomark _)) (pe_xf xf nof hz.zc hf (pv 1)) pe_int) pa_nil)))))))).run pins s' _ G D' I ?_
          refine ⟨rfl, (fun J kJ d2 z => by cases z; exact ⟨_, kJ _ _ hdd fun m => nomatch m⟩), fun x J hx kJ => ?_⟩
          obtain rfl : ("BadText" : Str) = x := by rw [hw] at hx; exact Option.some.inj hx
          refine ⟨_, rfl, rfl, _, rfl, iteF ⟨_, rfl, rfl, _, rfl, iteF ⟨_, rfl, _, rfl, rfl, _, rfl, iteT ⟨_, rfl, rfl, rfl, dd, _, .int v, rfl, kJ _ _ hdd (fun m => nomatch m), rfl, sz 2 (by decide), fun t nt => ?_⟩⟩⟩⟩
          exact k t _ (kJ.andN nt) upd_same
    · refine ⟨_, fun cls d τ J hx => ?_, rfl, hc, hf, h⟩
      obtain ⟨e1, e2, k⟩ := hx
      subst e1
      exact ⟨true, R.xm, fun _ a _ => ⟨⟨τ, rfl⟩, rfl, e2, k⟩, fun z => by cases z⟩
end
/-- a refusal of a frame's lambda -/
def RRef (X : Cx) (A : Ad) (kk : Nat) : L2.St → List V → Hp → VK → Prop := fun σ vs H Q => ∃ D wd fld v f tb, Rfd X.K A D wd fld ∧ vs = [.ref f] ∧ WorkAt X kk tb H f ∧ TTr D wd fld v (fun E J R => tb E σ J R) H Q
theorem pe_ref {X : Cx} {A : Ad} (T : Txt X.K X.mg A) {kk : Nat} (h3 : 3 ≤ kk) {p pos : Pos} {e : Expr} {es : List Expr} {t : TA} (own : ∀ y, X.fn y = true) (hr : Room (kk + 2) X.A) (hg : Gl X "_law_refused") (ha : PA X (e :: es) t)
    (he : starEach (e :: es) X.env = (false, eval e X.env) :: starEach es X.env := by rfl) (hpl : (backTo pos (starEach es X.env)).any (·.1) = false := by rfl) :
    PE X (.Call (.Name "_law_refused" p) (e :: es) [] pos) (fun σ H Q => t σ H fun vs G => RRef X A kk σ vs G Q) := by
  refine pe_callG (k := kk + 2) (f := A.d 38) (ps := ["_law_work"]) (sp := fun B => spRef X.prog X.w X.K X.mg A kk B) (R := RRef X A kk) (fun B sub => ok_refused (base := B) T h3) own hr hg T.refused.at_ T.refused.kp ha (fun pins σ H s B vs Q I gr h => ?_) (by decide) he hpl
  obtain ⟨D, wd, fld, v, f, tb, R, rfl, ⟨c', ar, bd, sc, e1, e2, Ls, b0, body⟩, h4⟩ := h
  exact ⟨D, wd, fld, v, R, f, c', _, _, ar, bd, sc, _, _, rfl, e1, e2, acts_of I gr Ls b0 (fun Ar outer t G E hr => body B gr.bs Ar outer t G E f c' hr), h4⟩
end S02

set_option Elab.async false
set_option linter.all false
set_option maxRecDepth 100000
set_option maxHeartbeats 4000000
/-! ### what is read of a text, or the refusal -/
namespace S02
open PySem PySem.Spec PyProof.Rows L2 LamX K5 SupX GenX TL
def rowsR : List Str → Nat ⊕ List Gd
  | [] => .inr []
  | x :: r => match rowR x with
    | none => .inl 0
    | some g => match rowsR r with
      | .inl i => .inl (i + 1)
      | .inr gs => .inr (g :: gs)
theorem rowsR_inl : ∀ {rs : List Str} {i : Nat}, rowsR rs = .inl i → ∃ y gs, rs[i]? = some y ∧ rowR y = none ∧ Paired RowP (rs.take i) gs
  | [], _, h => by cases h
  | x :: r, i, h => by
    unfold rowsR at h
    cases hx : rowR x with
    | none => rw [hx] at h; cases h; exact ⟨x, [], rfl, hx, .nil⟩
    | some g =>
      rw [hx] at h
      have h : (match rowsR r with | .inl i => .inl (i + 1) | .inr gs => .inr (g :: gs)) = Sum.inl (β := List Gd) i := h
      cases hr : rowsR r with
      | inl j =>
        rw [hr] at h
        cases h
        obtain ⟨y, gs, h1, h2, h3⟩ := rowsR_inl hr
        exact ⟨y, g :: gs, h1, h2, .cons hx h3⟩
      | inr gs => rw [hr] at h; cases h
theorem rowsR_inr : ∀ {rs : List Str} {gs : List Gd}, rowsR rs = .inr gs → Paired RowP rs gs
  | [], _, h => by cases h; exact .nil
  | x :: r, gs, h => by
    unfold rowsR at h
    cases hx : rowR x with
    | none => rw [hx] at h; cases h
    | some g =>
      rw [hx] at h
      have h : (match rowsR r with | .inl i => .inl (i + 1) | .inr gs => .inr (g :: gs)) = Sum.inr (α := Nat) gs := h
      cases hr : rowsR r with
      | inl j => rw [hr] at h; cases h
      | inr gs => rw [hr] at h; cases h; exact .cons hx (rowsR_inr hr)
theorem rowP_bad {rs : List Str} {gs : List Gd} {i : Nat} {y : Str} (h : Paired RowP rs gs) (hy : rs[i]? = some y) (hn : rowR y = none) : False := by
  obtain ⟨g, _, e⟩ := paired_at h hy
  have e : rowR y = some g := e
  rw [hn] at e
  cases e
theorem rowsR_at : ∀ {rs : List Str} {i : Nat} {y : Str} {gs : List Gd}, rs[i]? = some y → rowR y = none → Paired RowP (rs.take i) gs → rowsR rs = .inl i
  | [], i, _, _, h, _, _ => by simp at h
  | x :: r, 0, y, _, h, hn, _ => by
    cases h
    unfold rowsR
    rw [hn]
  | x :: r, i + 1, y, gs, h, hn, hp => by
    rw [List.take_succ_cons] at hp
    cases hp with
    | cons a hp =>
      have e := rowsR_at (rs := r) (i := i) (by simpa using h) hn hp
      have a : rowR x = some _ := a
      unfold rowsR
      rw [a, e]
theorem rowP_fun : ∀ {rs : List Str} {gs hs : List Gd}, Paired RowP rs gs → Paired RowP rs hs → gs = hs
  | _, _, _, .nil, .nil => rfl
  | _, _, _, .cons a r, .cons b s => by
    have e : some _ = some _ := a.symm.trans b
    cases e
    rw [rowP_fun r s]
inductive Out where
  | ok (gs : List Gd)
  | text (i : Nat)
  | hand
  | deal (p : Nat)
def outG (gs : List Gd) : Out := match badGs gs with
  | none => .ok gs
  | some .hand => .hand
  | some (.deal p) => .deal p
  | some _ => .ok gs
def outOf (x : Str) : Out := match rowsR (rowsOf x) with
  | .inl i => .text i
  | .inr gs => outG gs
theorem badGs_two : ∀ {gs : List Gd} {r : Er}, badGs gs = some r → r = .hand ∨ ∃ p, r = .deal p
  | [], _, h => by cases h
  | g :: gs, r, h => by
    unfold badGs at h
    cases hb : badG g with
    | none => rw [hb] at h; exact badGs_two h
    | some r' =>
      rw [hb] at h
      cases h
      unfold badG at hb
      split at hb
      · cases hd : dealBad g.ds with
        | none => rw [hd] at hb; cases hb
        | some p => rw [hd] at hb; cases hb; exact .inr ⟨p, rfl⟩
      · cases hb; exact .inl rfl
def TupAt (H : Hp) (v : V) (wd : Str) (n : Int) : Prop := ∃ p, v = .ref p ∧ H p = some (.tup [.str wd, .int n])
def OutAt (H : Hp) (v : V) : Out → Prop
  | .ok gs => ∃ l xs, v = .ref l ∧ H l = some (.lst xs) ∧ Paired (GdAt H) xs gs
  | .text i => TupAt H v "BadText" (i : Nat)
  | .hand => TupAt H v "BadHand" 0
  | .deal p => TupAt H v "BadDeal" (p : Nat)
theorem OutAt.kt {H G : Hp} (k : Kt No H G) {v : V} : ∀ {o : Out}, OutAt H v o → OutAt G v o
  | .ok _, ⟨l, xs, e, h, p⟩ => ⟨l, xs, e, k.lst h (fun z => z), p.mono fun _ _ z => z.kt k⟩
  | .text _, ⟨p, e, h⟩ => ⟨p, e, k.tup h⟩
  | .hand, ⟨p, e, h⟩ => ⟨p, e, k.tup h⟩
  | .deal _, ⟨p, e, h⟩ => ⟨p, e, k.tup h⟩
theorem TabUp {base B : Heap} {mg : Str → Option Value} {c P : Addr} (TB : GxR.TabB base mg c P) (sub : ∀ b o, base.get? b = some o → B.get? b = some o) : GxR.TabB B mg c P := ⟨TB.code.keeps sub, TB.bm.keeps sub, TB.gP⟩
def lamT : Str := (envOfC "_law_told" { kind := .function, names := [], isGenerator := false, isCoroutine := false } 0 0 .none).qual ++ "<lambda>"
abbrev tbL (pL : Addr) : List (Addr × Str) := [(pL, lamT)]
theorem Kg.tabs {L : List Addr} {F : Addr → Prop} {H G : Hp} {Tb : List (Addr × Str)} (k : Kg L F H G) (n : ∀ p ∈ Tb, p.1 ∉ L) (t : Tabs Tb H) : Tabs Tb G := fun p hp => by
  obtain ⟨ps, h1, h2, h3⟩ := t p hp
  have st : ∀ b o, H b = some o → ¬ Mu o → (b ∉ L ∨ ∀ ps, o ≠ .tbl ps) → G b = some o := fun b o e m q => (k.st b o e fun z => absurd z m).elim (fun ⟨z1, ⟨ps, z2⟩, _⟩ => q.elim (fun q => absurd z1 q) fun q => absurd z2 (q ps)) id
  refine ⟨ps, st _ _ h1 (fun z => z) (.inl (n p hp)), h2, fun pos cv hcv => ?_⟩
  obtain ⟨c, e1, e2⟩ := h3 pos cv hcv
  exact ⟨c, e1, st _ _ e2 (fun z => z) (.inr codeO_ne)⟩
theorem lam_ktL {pL : Addr} {H G : Hp} (T : Tabs (tbL pL) H) (k : ∀ b o, b ≠ pL → H b = some o → G b = some o) : Kt No H G := fun b o e t _ => by
  refine k b o (fun z => ?_) e
  obtain ⟨q, e1, _⟩ := T (pL, lamT) List.mem_cons_self
  rw [z] at e
  rw [e1] at e
  exact t q (Option.some.inj e).symm
theorem tg_lam {L : List Addr} {pL : Addr} {H G : Hp} (T : Tg L H) (nP : pL ∉ L) (k : ∀ b o, b ≠ pL → H b = some o → G b = some o) : Tg L G := fun Q hQ => by
  obtain ⟨ps, e, q⟩ := T Q hQ
  exact ⟨ps, k _ _ (fun z => nP (z ▸ hQ)) e, q⟩
theorem tbL_one {X : Cx} {pL : Addr} (e : X.env.qual ++ "<lambda>" = lamT) : ∀ p ∈ tbL pL, p.1 = pL → p.2 = X.env.qual ++ "<lambda>" := fun p hp z => by
  rw [List.mem_singleton.mp hp, e]
section
variable {P : Program} {w : World} {K : PySem.W.Frag} {mg : Str → Option Value} {base : Heap} {A : Ad} {B fR fI pR pL : Addr}
abbrev Nsctold : List Str := ["_law_text_here", "_law_refusal"]
theorem sctold : FnScope Nsctold ["_law_text_here"] (defScope s_told) := ⟨rfl, rfl, rfl, by decide +kernel, rfl, by decide +kernel, by decide +kernel⟩
def spTold (pR pL : Addr) : Sp := fun vs H Q _ => ∃ (x : Str), vs = [.str x] ∧ Tg [pR] H ∧ Tabs (tbL pL) H ∧ (tl x).length ≤ 50000 ∧ ∀ G v, Kt No H G → Tg [pR] G → Tabs (tbL pL) G → OutAt G v (outOf x) → Q v G
theorem ok_told (T : Txt K mg A) (X : Ex P w K mg A B fR fI) (htop : (P.main.scope.names.lookup ("super" : Str)).isSome = false) (TR : GxR.TabB base mg (A.co 31 0) pR) (TL : LamX.TabB base mg (A.co 57 0) pL) (nLR : pL ≠ pR) (RT : Rfd K A (A.c 12) "BadText" (some "row")) (RH : Rfd K A (A.c 3) "BadHand" none) (RD : Rfd K A (A.c 2) "BadDeal" (some "place")) :
    ∃ fd, FnOk P w K mg base CX0 14 (A.d 57) fd ["_law_text_here"] (spTold pR pL) ∧ Binds K fd ["_law_text_here"] [] := by
  obtain ⟨fd1, Gread_deals, bread_deals⟩ := ok_readX (P := P) (w := w) (base := base) T X htop TR
  refine okC T.C_told sctold (fun vs H Q E h => ?_) (fun Ar outer s0 H vs Q E hr h => ?_) (fun _ _ _ _ _ us hl => match us, hl with | [_], _ => rfl)
  · obtain ⟨x, rfl, _⟩ := h
    rfl
  · obtain ⟨x, rfl, TG, TT0, hsz, k⟩ := h
    have hu := hu_of hr
    refine ⟨_, (pss_cons (ps_set (i := 1) sctold.nd rfl (Or.inl rfl) (pe_ref (kk := 11) T (by decide) (fun _ => rfl) (hr.mono (by decide)) rfl (pa_cons (pe_work (P := pL) (Tb := tbL pL) (k := 11) (tb := fun E => tCall (spReadX A pR) [] E (tCons (tVar 0) tNil)) TL rfl List.mem_cons_self (tbL_one rfl) rfl ⟨lamS_by (by show lamSB (defScope s_told) _ = true; decide +kernel), fun _ _ _ _ _ => rfl, fun B sub Ar outer t G E f c' hr => by obtain ⟨_, G9, b9⟩ := ok_readX (P := P) (w := w) (base := B) T X htop (TabUp TR sub); exact pe_call (E := E) G9 (hr.mono (by decide)) rfl T.read_deals.at_ T.read_deals.kp b9 .nil (L2N.passes_call (L2N.takes_of rfl rfl rfl rfl) fun _ _ _ _ h => h) (pa_cons (pv 0) pa_nil)⟩) pa_nil)))
      (pss_one (ps_ret (pe_ifExp (pt_cmp (pc_isN (pv 1))) (pe_call (E := fun _ _ _ => False) Gread_deals (hr.mono (by first | decide | omega)) rfl T.read_deals.at_ T.read_deals.kp bread_deals .nil (L2N.passes_call takesN0 fun _ _ _ _ h => h) (pa_cons (pv 0) pa_nil)) (pv 1))))), ?_⟩
    refine ⟨TT0, fun f1 C1 e1' t1' wk1 => ?_⟩
    have nP : pL ∉ [pR] := fun z => nLR (List.mem_singleton.mp z)
    have k1 : Kt No H C1 := lam_ktL TT0 e1'
    have TG1 := tg_lam TG nP e1'
    have nT : ∀ p ∈ tbL pL, p.1 ∉ [pR] := fun p hp => by rw [List.mem_singleton.mp hp]; exact nP
    -- the answer is the refusal
    have ref : ∀ {G J : Hp} {p : Addr}, Kg [pR] No C1 G → Kt No G J → Tg [pR] J → Tabs (tbL pL) J → OutAt J (.ref p) (outOf x) → tRet (tIf (tB (tIsN (tVar 1))) (tCall (spReadX A pR) [] (fun _ _ _ => False) (tCons (tVar 0) tNil)) (tVar 1)) { nx := fun _ G => Q .non G, rt := Q } [some (.str x), some (.ref p)] J := fun kG kJ tJ lJ hO =>
      ⟨_, rfl, _, rfl, iteF ⟨_, rfl, k _ _ (k1.trans (kG.t.trans kJ fun _ z => False.elim z) fun _ z => False.elim z) tJ lJ hO⟩⟩
    have oo : outOf x = (match rowsR (rowsOf x) with | .inl i => .text i | .inr gs => outG gs) := rfl
    cases hR : rowsR (rowsOf x) with
    | inl i =>
      rw [hR] at oo
      obtain ⟨yb, gb, h1, h2, h3⟩ := rowsR_inl hR
      refine ⟨A.c 12, "BadText", some "row", (i : Nat), f1, _, RT, rfl, wk1, ⟨_, rfl, x, rfl, TG1, hsz, fun j y gs hy hn hp G kG d hd => ?_, fun gs hp => (rowP_bad hp h1 h2).elim⟩⟩
      have ej := rowsR_at hy hn hp
      rw [hR] at ej
      cases ej
      refine ⟨rfl, ⟨d, rfl, upd_same⟩, fun p J kJ hp => ?_⟩
      have kd : Kp No G (upd G d (.xd [("row", .int (i : Nat))])) := Kp.new hd
      have kJ2 := kd.trans kJ fun _ z => False.elim z
      exact ref kG kJ2.t ((TG1.kg kG).kp kJ2) ((Kg.of (L := []) kJ2).tabs (fun _ _ z => nomatch z) (kG.tabs nT t1')) (by rw [oo]; exact ⟨p, rfl, hp⟩)
    | inr gs =>
      rw [hR] at oo
      have hgs := rowsR_inr hR
      have noE : ∀ {E9 : XK} {H9 : Hp}, ∀ i y gs', (rowsOf x)[i]? = some y → rowR y = none → Paired RowP ((rowsOf x).take i) gs' → ∀ G, Kg [pR] No H9 G → ErT A E9 G i := fun i y _ hy hn _ => (rowP_bad hgs hy hn).elim
      have oo : outOf x = outG gs := oo
      cases hb : badGs gs with
      | none =>
        have oo : outOf x = .ok gs := by rw [oo]; unfold outG; rw [hb]
        refine ⟨A.c 12, "BadText", some "row", 0, f1, _, RT, rfl, wk1, ⟨_, rfl, x, rfl, TG1, hsz, noE, fun gs' hp G kG => ?_⟩⟩
        obtain rfl := rowP_fun hgs hp
        refine ⟨fun _ l xs nl el pl => ?_, fun r hr => by rw [hb] at hr; cases hr⟩
        refine ⟨_, rfl, _, rfl, iteT ⟨_, rfl, x, rfl, TG1.kg kG, hsz, noE, fun gs' hp G2 kG2 => ?_⟩⟩
        obtain rfl := rowP_fun hgs hp
        refine ⟨fun _ l xs nl el pl => ?_, fun r hr => by rw [hb] at hr; cases hr⟩
        exact k _ _ (k1.trans (kG.t.trans kG2.t fun _ z => False.elim z) fun _ z => False.elim z) ((TG1.kg kG).kg kG2) (kG2.tabs nT (kG.tabs nT t1')) (by rw [oo]; exact ⟨l, xs, rfl, el, pl⟩)
      | some r =>
        rcases badGs_two hb with rfl | ⟨pp, rfl⟩
        · have oo : outOf x = .hand := by rw [oo]; unfold outG; rw [hb]
          refine ⟨A.c 3, "BadHand", none, 0, f1, _, RH, rfl, wk1, ⟨_, rfl, x, rfl, TG1, hsz, noE, fun gs' hp G kG => ?_⟩⟩
          obtain rfl := rowP_fun hgs hp
          refine ⟨fun hn => (by rw [hb] at hn; cases hn), fun r hr => ?_⟩
          rw [hb] at hr
          cases hr
          refine ⟨rfl, ⟨rfl, rfl⟩, fun p J kJ hp => ?_⟩
          exact ref kG kJ.t ((TG1.kg kG).kp kJ) ((Kg.of (L := []) kJ).tabs (fun _ _ z => nomatch z) (kG.tabs nT t1')) (by rw [oo]; exact ⟨p, rfl, hp⟩)
        · have oo : outOf x = .deal pp := by rw [oo]; unfold outG; rw [hb]
          refine ⟨A.c 2, "BadDeal", some "place", (pp : Nat), f1, _, RD, rfl, wk1, ⟨_, rfl, x, rfl, TG1, hsz, noE, fun gs' hp G kG => ?_⟩⟩
          obtain rfl := rowP_fun hgs hp
          refine ⟨fun hn => (by rw [hb] at hn; cases hn), fun r hr => ?_⟩
          rw [hb] at hr
          cases hr
          intro d hd
          refine ⟨rfl, ⟨d, rfl, upd_same⟩, fun p J kJ hp => ?_⟩
          have kd : Kp No G (upd G d (.xd [("place", .int (pp : Nat))])) := Kp.new hd
          have kJ2 := kd.trans kJ fun _ z => False.elim z
          exact ref kG kJ2.t ((TG1.kg kG).kp kJ2) ((Kg.of (L := []) kJ2).tabs (fun _ _ z => nomatch z) (kG.tabs nT t1')) (by rw [oo]; exact ⟨p, rfl, hp⟩)
end
end S02

set_option Elab.async false
set_option linter.all false
set_option maxRecDepth 100000
set_option maxHeartbeats 4000000
/-! ### the law's own reader: numbers, parts -/
namespace S02
open PySem PySem.Spec PyProof.Rows L2 K5 SupX GenX TL
section
variable {P : Program} {w : World} {K : PySem.W.Frag} {mg : Str → Option Value} {base : Heap} {A : Ad} {B fR fI pR pL : Addr}
abbrev Nscnumber : List Str := ["_law_word", "_law_sign"]
theorem scnumber : FnScope Nscnumber ["_law_word"] (defScope s_number) := ⟨rfl, rfl, rfl, by decide +kernel, rfl, by decide +kernel, by decide +kernel⟩
def oN : Option Nat → V
  | none => .non
  | some n => .int (n : Nat)
/-- a text's signs are signs -/
def Sg (x : Str) : Prop := ∀ c ∈ tl x, c < 1114112
theorem Sg.ok {x : Str} (h : Sg x) : PyData.strOk x = true := by
  unfold PyData.strOk
  rw [← Array.all_toList, List.all_eq_true]
  exact fun c hc => decide_eq_true (h c hc)
abbrev sgV (c : Nat) : V := .str ⟨#[c]⟩
abbrev sgD (c : Nat) : PyData := .str ⟨#[c]⟩
theorem sg_one {c : Nat} (h : c < 1114112) : PyData.strOk ⟨#[c]⟩ = true := by
  unfold PyData.strOk
  simp [h]
theorem dta_sg {K : PySem.W.Frag} {H : Hp} : ∀ {l : List Nat}, (∀ c ∈ l, c < 1114112) → DtA K H 0 (l.map sgV) (l.map sgD)
  | [], _ => DtA.nil 0
  | c :: l, h => (Dt.str 0 _ (sg_one (h c List.mem_cons_self))).cons (dta_sg fun d hd => h d (List.mem_cons_of_mem _ hd))
def spNumL : Sp := fun vs H Q _ => ∃ (x : Str), vs = [.str x] ∧ (tl x).length ≤ 50000 ∧ Sg x ∧ ∀ G, Kp No H G → Q (oN (numR x)) G
theorem ok_numL (T : Txt K mg A) : ∃ fd, FnOk P w K mg base CX0 1 (A.d 52) fd ["_law_word"] spNumL ∧ Binds K fd ["_law_word"] [] := by
  obtain ⟨fd, F⟩ := T.number.fn
  refine ⟨fd, F.ok scnumber (fun vs H Q E h => ?_) (fun cdv Ar outer s0 H vs Q E hr h => ?_), F.binds fun _ _ _ _ _ _ us hl => match us, hl with | [_], _ => rfl⟩
  · obtain ⟨x, rfl, _⟩ := h
    rfl
  · obtain ⟨x, rfl, hsz, hsg, k⟩ := h
    have hu := hu_of hr
    refine ⟨_, (pss_cons (ps_if (PW.pt (pw_or (pt_cmpR op_eq (pv 0) pe_str (nomark _)) (pw_or (pt_cmpR op_gt (pe_callB call_len_str (by rfl) T.len PySem.boot_len (pa_cons (pv 0) pa_nil)) pe_int (nomark _)) (pw_or1 (pt_cmpR (op_neD hr.units) (pe_lc (own := [("_law_sign", 1)]) (g := (gName 1)) (by rfl) scnumber.nd (pi_str (pv 0)) (blkOk_by (N := Nscnumber) (sc := defScope s_number) (by decide +kernel)) (fun _ _ _ _ _ => pg_name (i := 1) scnumber.nd rfl (Or.inl rfl)) (fun _ _ _ _ _ => (pts_one (pt_cmpR op_notIn_sign (pv 1) pe_str rfl))) (fun _ _ _ _ _ => (pv 1))) (pe_lst pa_nil) (nomark _))))))
        (pss_one (ps_ret pe_non))
        pss_nil)
      (pss_one (ps_ret (pe_ifExp (pt_cmpR op_eq (pe_callTy call_strB (by rfl) T.str (by decide +kernel) (pa_cons (pe_callTy call_int_str (by rfl) T.int (by decide +kernel) (pa_cons (pv 0) pa_nil)) pa_nil)) (pv 0) (nomark _)) (pe_callTy call_int_str (by rfl) T.int (by decide +kernel) (pa_cons (pv 0) pa_nil)) pe_non)))), ?_⟩
    have hszs : x.length ≤ sizeLine := by rw [len_tl]; exact Nat.le_trans hsz (by decide)
    refine ⟨_, rfl, rfl, _, rfl, ?_⟩
    by_cases h0 : x = ""
    · rw [show decide (V.str x = V.str "") = true from decide_eq_true (by rw [h0])]
      have hn : numR x = none := numR_len (by rw [h0]; decide +kernel)
      rw [hn] at k
      exact iteT (iteT (k H (Kp.refl _ _)))
    rw [show decide (V.str x = V.str "") = false from decide_eq_false fun z => by injection z with z; exact h0 z]
    have l1 : 1 ≤ (tl x).length := by
      rcases Nat.eq_zero_or_pos (tl x).length with z | z
      · exact absurd (ext_tl (by rw [List.length_eq_zero_iff.mp z]; rfl)) h0
      · exact z
    refine iteF ⟨_, rfl, x, rfl, hszs, _, _, rfl, rfl, _, rfl, ?_⟩
    by_cases h4 : (tl x).length ≤ 4
    rotate_left
    · rw [show decide ((4 : Int) < (x.length : Int)) = true from decide_eq_true (by rw [len_tl]; omega)]
      have hn : numR x = none := numR_len fun z => h4 z.2
      rw [hn] at k
      exact iteT (iteT (k H (Kp.refl _ _)))
    rw [show decide ((4 : Int) < (x.length : Int)) = false from decide_eq_false (by rw [len_tl]; omega)]
    refine iteF ⟨_, rfl, x, rfl, fun D nD => lc_its (fun i J => Kp (fun b => b = D) H J ∧ J D = some (.lst ((((tl x).take i).filter fun c => !figB c).map sgV))) ⟨Kp.new nD, upd_same⟩ ?_ ?_⟩
    · rintro i c' J hci ⟨kJ, eJ⟩
      have hi : i < x.cps.size := (Array.getElem?_eq_some_iff.mp hci).1
      have hci' : (tl x)[i]? = some c' := by
        show x.cps.toList[i]? = some c'
        rw [Array.getElem?_toList]
        exact hci
      refine ⟨rfl, _, rfl, c', "0123456789", rfl, rfl, _, rfl, ?_⟩
      have e9 : ((tl x).take (i + 1)).filter (fun c => !figB c) = ((tl x).take i).filter (fun c => !figB c) ++ (if (!figB c') = true then [c'] else []) := by
        rw [take_snoc hci', List.filter_append, List.filter_cons, List.filter_nil]
      show if (!figB c') = true then _ else _
      cases hb : (!figB c') with
      | true =>
        rw [hb] at e9
        refine iteT ⟨_, rfl, _, eJ, szL (by rw [List.length_map]; exact Nat.le_trans (List.length_filter_le _ _) (by rw [List.length_take]; omega)), kJ.trans (show Kp (fun b => b = D) J _ from Kp.updL eJ rfl) fun b z => .inl z, ?_⟩
        rw [upd_same, e9, List.map_append]
        rfl
      | false =>
        rw [hb] at e9
        refine iteF ⟨kJ, ?_⟩
        rw [e9]
        simpa using eJ
    · rintro J ⟨kJ, eJ⟩
      have kH : Kp No H J := kp_fresh kJ fun b z => by rw [show b = D from z]; exact nD
      rw [show (tl x).take x.cps.size = tl x from List.take_of_length_le (by rw [← len_tl]; exact Nat.le_refl _)] at eJ
      refine ⟨sz 0 (by decide), fun e ne => ?_⟩
      have kH2 : Kp No H (upd J e (.lst [])) := kH.trans (Kp.new ne) fun _ z => False.elim z
      have eJ2 : upd J e (.lst []) D = some (.lst (((tl x).filter fun c => !figB c).map sgV)) := by rw [upd_ne (ne_of_none eJ ne)]; exact eJ
      have dt := dta_sg (K := K) (H := upd J e (.lst [])) (l := (tl x).filter fun c => !figB c) fun c hc => hsg c (List.mem_filter.mp hc).1
      have dl := Dt.lst eJ2 dt
      refine ⟨_, _, dl.1, .lst (SqL.of upd_same) .nil, dl.shaped (by decide), shaped_nil, _, rfl, ?_⟩
      rw [eqv_nil]
      by_cases hf : ∀ c ∈ tl x, 48 ≤ c ∧ c ≤ 57
      rotate_left
      · have : ((tl x).filter fun c => !figB c) ≠ [] := fun z => hf fun c hc => by
          by_cases q : figB c = true
          · exact figs_iff.mp (of_decide_eq_true q)
          · have : c ∈ (tl x).filter fun c => !figB c := List.mem_filter.mpr ⟨hc, by simpa using q⟩
            rw [z] at this; cases this
        have e2 : (!(((tl x).filter fun c => !figB c).map sgD).isEmpty) = true := by
          cases h : (tl x).filter fun c => !figB c with
          | nil => exact absurd h this
          | cons a b => rfl
        rw [e2]
        have hn := numR_odd hf
        rw [hn] at k
        exact iteT (k _ kH2)
      have e2 : ((tl x).filter fun c => !figB c) = [] := by
        rw [List.filter_eq_nil_iff]
        intro c hc z
        have : figB c = true := decide_eq_true (figs_iff.mpr (hf c hc))
        rw [this] at z
        cases z
      rw [e2]
      have hne : tl x ≠ [] := fun z => by rw [z] at l1; simp at l1
      have hint := int_dgs hf hne h4
      have hl640 : x.length ≤ 640 := by rw [len_tl]; omega
      have h9 : dgs x < 1000000 := by
        have hb : ∀ (l : List Nat) (a : Nat), (∀ c ∈ l, 48 ≤ c ∧ c ≤ 57) → l.foldl (fun acc c => acc * 10 + (c - 48)) a < (a + 1) * 10 ^ l.length := by
          intro l
          induction l with
          | nil => intro a _; simp
          | cons d r ih =>
            intro a hd
            have h1 := hd d List.mem_cons_self
            have h2 := ih (a * 10 + (d - 48)) fun c hc => hd c (List.mem_cons_of_mem _ hc)
            rw [List.foldl_cons, List.length_cons, Nat.pow_succ]
            refine Nat.lt_of_lt_of_le h2 ?_
            have h3 : a * 10 + (d - 48) + 1 ≤ (a + 1) * 10 := by omega
            have := Nat.mul_le_mul_right (10 ^ r.length) h3
            rw [Nat.mul_assoc, Nat.mul_comm 10] at this
            exact this
        have h9 : dgs x < (0 + 1) * 10 ^ (tl x).length := hb (tl x) 0 hf
        have h10 : (10 : Nat) ^ (tl x).length ≤ 10 ^ 4 := Nat.pow_le_pow_right (by decide) h4
        omega
      refine iteF ⟨_, rfl, x, _, rfl, hint, hl640, .inl ⟨_, rfl, small_log (by omega) (by omega), _, rfl, rfl, _, rfl, ?_⟩⟩
      by_cases hb : nS (dgs x : Int) = x
      · rw [show decide (V.str (nS ((dgs x : Nat) : Int)) = V.str x) = true from decide_eq_true (by rw [hb])]
        have hn : numR x = some (dgs x) := if_pos ⟨l1, h4, hf, hb⟩
        rw [hn] at k
        exact iteT ⟨_, rfl, x, _, rfl, hint, hl640, k _ kH2⟩
      · rw [show decide (V.str (nS ((dgs x : Nat) : Int)) = V.str x) = false from decide_eq_false fun z => by injection z with z; exact hb z]
        have hn : numR x = none := if_neg fun z => hb z.2.2.2
        rw [hn] at k
        exact iteF (k _ kH2)
end
end S02

set_option Elab.async false
set_option linter.all false
set_option maxRecDepth 100000
set_option maxHeartbeats 4000000
/-! ### parts -/
namespace S02
open PySem PySem.Spec PyProof.Rows L2 K5 SupX GenX TL
def partR (kd x : Str) : Option V := if kd = "worth" then (worthR x).map oV else if kd = "more" then (moreR x).map V.int else (numR x).map fun n => V.int (n : Nat)
def optL : Option V → List V
  | none => []
  | some v => [v]
theorem cut01 (x : Str) : cutS x none (some 1) = ⟨((tl x).take 1).toArray⟩ := by
  apply ext_tl
  show ((tl x).drop (HT.sIx x.length 0 none)).take (HT.sIx x.length x.length (some 1) - HT.sIx x.length 0 none) = _
  have s1 : HT.sIx x.length x.length (some ((1 : Nat) : Int)) = min 1 x.length := HT.sIx_nat ..
  rw [show (some (1 : Int)) = some ((1 : Nat) : Int) from rfl, s1, HT.sIx_none, List.drop_zero, Nat.sub_zero]
  show _ = (tl x).take 1
  rw [len_tl]
  exact (List.take_eq_take_min ..).symm
theorem cut1_sg {x : Str} {c : Nat} {r : List Nat} (e : tl x = c :: r) (h : Sg x) : Sg (⟨r.toArray⟩ : Str) := fun d hd => h d (by rw [e]; exact List.mem_cons_of_mem _ hd)
section
variable {P : Program} {w : World} {K : PySem.W.Frag} {mg : Str → Option Value} {base : Heap} {A : Ad} {B fR fI pR pL : Addr}
abbrev Nscpart : List Str := ["_law_word", "_law_kind", "_law_number_here"]
theorem scpart : FnScope Nscpart ["_law_word", "_law_kind"] (defScope s_part) := ⟨rfl, rfl, rfl, by decide +kernel, rfl, by decide +kernel, by decide +kernel⟩
def spPart : Sp := fun vs H Q _ => ∃ (x kd : Str), vs = [.str x, .str kd] ∧ (tl x).length ≤ 50000 ∧ Sg x ∧ ∀ G l, H l = none → Kp No H G → G l = some (.lst (optL (partR kd x))) → Q (.ref l) G
theorem ok_part (T : Txt K mg A) : ∃ fd, FnOk P w K mg base CX0 2 (A.d 53) fd ["_law_word", "_law_kind"] spPart ∧ Binds K fd ["_law_word", "_law_kind"] [] := by
  obtain ⟨fd, F⟩ := T.part.fn
  obtain ⟨fd1, Gnumber, bnumber⟩ := ok_numL (P := P) (w := w) (base := base) T
  refine ⟨fd, F.ok scpart (fun vs H Q E h => ?_) (fun cdv Ar outer s0 H vs Q E hr h => ?_), F.binds fun _ _ _ _ _ _ us hl => match us, hl with | [_, _], _ => rfl⟩
  · obtain ⟨x, kd, rfl, _⟩ := h
    rfl
  · obtain ⟨x, kd, rfl, hsz, hsg, k⟩ := h
    have hu := hu_of hr
    refine ⟨_, (pss_cons (ps_if (PW.pt (pw_and (pt_cmpR op_eq (pv 1) pe_str (nomark _)) (pw_and1 (pt_cmpR op_eq (pv 0) pe_str (nomark _)))))
        (pss_one (ps_ret (pe_lst (pa_cons pe_non pa_nil))))
        pss_nil)
      (pss_cons (ps_if (PW.pt (pw_and (pt_cmpR op_eq (pv 1) pe_str (nomark _)) (pw_and1 (pt_cmpR op_eq (pe_slice sl_str (pv 0) po_none (po_some pe_int)) pe_str (nomark _)))))
        (pss_cons (ps_set (i := 2) scpart.nd rfl (Or.inl rfl) (pe_call Gnumber (hr.mono (by first | decide | omega)) rfl T.number.at_ T.number.kp bnumber .nil pass0 (pa_cons (pe_slice sl_str (pv 0) (po_some pe_int) po_none) pa_nil)))
        (pss_one (ps_ret (pe_ifExp (PW.pt (pw_and (pt_cmp (pc_notN (pv 2))) (pw_and1 (pt_cmpR op_gt (pv 2) pe_int (nomark _))))) (pe_lst (pa_cons (pe_op op_sub pe_int (pv 2)) pa_nil)) (pe_lst pa_nil)))))
        pss_nil)
      (pss_cons (ps_set (i := 2) scpart.nd rfl (Or.inl rfl) (pe_call Gnumber (hr.mono (by first | decide | omega)) rfl T.number.at_ T.number.kp bnumber .nil pass0 (pa_cons (pv 0) pa_nil)))
      (pss_one (ps_ret (pe_ifExp (pt_cmp (pc_notN (pv 2))) (pe_lst (pa_cons (pv 2) pa_nil)) (pe_lst pa_nil))))))), ?_⟩
    have hszs : x.length ≤ sizeLine := by rw [len_tl]; exact Nat.le_trans hsz (by decide)
    have ne : ∀ {a b : Str}, a ≠ b → decide (V.str a = V.str b) = false := fun h => decide_eq_false fun z => by injection z with z; exact h z
    have eq : ∀ {a b : Str}, a = b → decide (V.str a = V.str b) = true := fun h => decide_eq_true (by rw [h])
    have kN : partR kd x = none → ∀ G l, H l = none → Kp No H G → G l = some (.lst []) → Q (.ref l) G := fun e G l nl kG eG => k G l nl kG (by rw [e]; exact eG)
    have kS : ∀ {v : V}, partR kd x = some v → ∀ G l, H l = none → Kp No H G → G l = some (.lst [v]) → Q (.ref l) G := fun e G l nl kG eG => k G l nl kG (by rw [e]; exact eG)
    -- a plain number
    have num : ∀ {o2 : Option V}, partR kd x = (numR x).map (fun n => V.int (n : Nat)) → tSeq (tAsg (tCall spNumL [] E0 (tCons (tVar 0) tNil)) (gName 2)) (tRet (tIf (tB (tNotN (tVar 2))) (tLst (tCons (tVar 2) tNil)) (tLst tNil))) { nx := fun _ G => Q .non G, rt := Q } [some (.str x), some (.str kd), o2] H := fun {o2} e => by
      refine ⟨_, rfl, x, rfl, hsz, hsg, fun G kG => ?_⟩
      cases hn : numR x with
      | none =>
        rw [hn] at e
        exact ⟨_, rfl, _, rfl, iteF ⟨sz 0 (by decide), fun l nl => kN e _ l (kG.free nl fun z => False.elim z) (kG.trans (Kp.new nl) fun _ z => False.elim z) upd_same⟩⟩
      | some n =>
        rw [hn] at e
        exact ⟨_, rfl, _, rfl, iteT ⟨_, rfl, sz 1 (by decide), fun l nl => kS e _ l (kG.free nl fun z => False.elim z) (kG.trans (Kp.new nl) fun _ z => False.elim z) upd_same⟩⟩
    refine ⟨_, rfl, rfl, _, rfl, ?_⟩
    by_cases hW : kd = "worth"
    · rw [eq hW]
      have pe : partR kd x = (worthR x).map oV := if_pos hW
      refine iteT ⟨_, rfl, rfl, _, rfl, ?_⟩
      by_cases hx : x = "-"
      · rw [eq hx]
        refine iteT ⟨sz 1 (by decide), fun l nl => kS (v := .non) ?_ _ l nl (Kp.new nl) upd_same⟩
        rw [pe]
        unfold worthR
        rw [if_pos hx]
        rfl
      · rw [ne hx]
        refine iteF ⟨_, rfl, rfl, _, rfl, ?_⟩
        rw [show decide (V.str kd = V.str "more") = false from ne (by rw [hW]; decide +kernel)]
        refine iteF (num ?_)
        rw [pe]
        unfold worthR
        rw [if_neg hx]
        cases numR x <;> rfl
    rw [ne hW]
    refine iteF ⟨_, rfl, rfl, _, rfl, ?_⟩
    by_cases hM : kd = "more"
    rotate_left
    · rw [ne hM]
      exact iteF (num ((if_neg hW).trans (if_neg hM)))
    rw [eq hM]
    have pe : partR kd x = (moreR x).map V.int := (if_neg hW).trans (if_pos hM)
    refine iteT ⟨_, rfl, 1, rfl, x, rfl, hszs, rfl, _, rfl, ?_⟩
    rw [cut01]
    have plain : (∀ r, tl x ≠ 45 :: r) → partR kd x = (numR x).map fun n => V.int (n : Nat) := fun h => by
      rw [pe]
      unfold moreR
      split
      · rename_i r e; exact absurd e (h r)
      · cases numR x <;> rfl
    cases e : tl x with
    | nil =>
      rw [show decide (V.str ⟨(([] : List Nat).take 1).toArray⟩ = V.str "-") = false by decide +kernel]
      exact iteF (num (plain fun r z => by rw [e] at z; cases z))
    | cons c r =>
      by_cases hc : c = 45
      rotate_left
      · rw [show decide (V.str ⟨((c :: r).take 1).toArray⟩ = V.str "-") = false from ne fun z => by
          have q := congrArg tl z
          rw [tl_mk, show tl ("-" : Str) = [45] by decide +kernel] at q
          have q : c :: r.take 0 = [45] := q
          injection q with q _
          exact hc q]
        exact iteF (num (plain fun r z => by rw [e] at z; injection z with z _; exact hc z))
      rw [hc] at e
      rw [show decide (V.str ⟨((c :: r).take 1).toArray⟩ = V.str "-") = true from eq (ext_tl (by rw [tl_mk, hc, show tl ("-" : Str) = [45] by decide +kernel]; rfl))]
      have mr : moreR x = (match numR ⟨r.toArray⟩ with
        | some n => if 0 < n then some (-(n : Int)) else none
        | none => none) := by
        unfold moreR
        split
        · rename_i r' e'
          rw [e] at e'
          injection e' with _ e'
          subst e'
          cases numR ⟨r.toArray⟩ <;> rfl
        · rename_i h; exact absurd e (h r)
      refine iteT ⟨_, rfl, 1, rfl, x, rfl, hszs, ⟨r.toArray⟩, by rw [cut1 e]; rfl, by rw [tl_mk]; rw [e, List.length_cons] at hsz; omega, cut1_sg e hsg, fun G kG => ?_⟩
      cases hn : numR ⟨r.toArray⟩ with
      | none =>
        rw [hn] at mr
        refine ⟨_, rfl, _, rfl, iteF ⟨sz 0 (by decide), fun l nl => kN (by rw [pe, mr]; rfl) _ l (kG.free nl fun z => False.elim z) (kG.trans (Kp.new nl) fun _ z => False.elim z) upd_same⟩⟩
      | some n =>
        rw [hn] at mr
        have mr : moreR x = if 0 < n then some (-(n : Int)) else none := mr
        refine ⟨_, rfl, _, rfl, iteT ⟨_, rfl, _, _, rfl, rfl, _, rfl, ?_⟩⟩
        by_cases hp : 0 < n
        · rw [show decide ((0 : Int) < ((n : Nat) : Int)) = true from decide_eq_true (by omega)]
          rw [if_pos hp] at mr
          refine iteT ⟨_, rfl, _, _, rfl, rfl, sz 1 (by decide), fun l nl => kS (v := .int (0 - (n : Int))) (by rw [pe, mr]; simp) _ l (kG.free nl fun z => False.elim z) (kG.trans (Kp.new nl) fun _ z => False.elim z) upd_same⟩
        · rw [show decide ((0 : Int) < ((n : Nat) : Int)) = false from decide_eq_false (by omega)]
          rw [if_neg hp] at mr
          exact iteF ⟨sz 0 (by decide), fun l nl => kN (by rw [pe, mr]; rfl) _ l (kG.free nl fun z => False.elim z) (kG.trans (Kp.new nl) fun _ z => False.elim z) upd_same⟩
end
end S02

set_option Elab.async false
set_option linter.all false
set_option maxRecDepth 100000
set_option maxHeartbeats 4000000
/-! ### rows by the law's reader -/
namespace S02
open PySem PySem.Spec PyProof.Rows L2 K5 SupX GenX TL
theorem SepOk.sg {y : Str} (h : SepOk y) {x p : Str} (hp : p ∈ Txt.split x y) (hs : Sg x) : Sg p := fun c hc => by
  have hm : tl p ∈ (Txt.split x y).map tl := List.mem_map.mpr ⟨p, hp, rfl⟩
  rw [h.spl x] at hm
  have := ((spl_len (tl x).length (tl x) [] (Nat.le_refl _)).2 _ hm).2 c hc
  exact hs c (by simpa using this)
def dN : Option Nat → PyData
  | none => .none
  | some n => .int (n : Nat)
theorem dt_oN {K : PySem.W.Frag} {H : Hp} (o : Option Nat) : Dt K H 0 (oN o) (dN o) := by
  cases o with
  | none => exact Dt.non 0
  | some n => exact Dt.int 0 _
theorem any_none (a b : Option Nat) : ([dN a, dN b].any fun z => PyData.eqv z .none) = (a.isNone || b.isNone) := by
  cases a <;> cases b <;> simp [dN, PyData.eqv]
def kindsL (w : Str) : List Str := if w = "put" then ["key", "key", "key"] else if w = "drop" then ["key"] else if w = "add" then ["key", "more"] else ["key", "worth"]
theorem kl_put : kindsL "put" = (["key", "key", "key"] : List Str) := if_pos rfl
theorem kl_drop : kindsL "drop" = (["key"] : List Str) := (if_neg (by decide +kernel)).trans (if_pos rfl)
theorem kl_add : kindsL "add" = (["key", "more"] : List Str) := (if_neg (by decide +kernel)).trans ((if_neg (by decide +kernel)).trans (if_pos rfl))
theorem kl_if : kindsL "if" = (["key", "worth"] : List Str) := (if_neg (by decide +kernel)).trans ((if_neg (by decide +kernel)).trans (if_neg (by decide +kernel)))
theorem pR_key (x : Str) : partR "key" x = (numR x).map fun n => V.int (n : Nat) := (if_neg (by decide +kernel)).trans (if_neg (by decide +kernel))
theorem pR_more (x : Str) : partR "more" x = (moreR x).map V.int := (if_neg (by decide +kernel)).trans (if_pos rfl)
theorem pR_worth (x : Str) : partR "worth" x = (worthR x).map oV := if_pos rfl
def osR (w : Str) (rest : List Str) : List (Option V) := List.zipWith partR (kindsL w) rest
theorem ms1 {a : Option V} {vs : List V} (h : [a] = vs.map some) : ∃ x, vs = [x] ∧ a = some x := by
  match vs, h with
  | [x], h => injection h with h1 h2; exact ⟨x, rfl, h1⟩
theorem ms2 {a b : Option V} {vs : List V} (h : [a, b] = vs.map some) : ∃ x y, vs = [x, y] ∧ a = some x ∧ b = some y := by
  match vs, h with
  | x :: vs, h =>
    injection h with h1 h2
    obtain ⟨y, rfl, h3⟩ := ms1 h2
    exact ⟨x, y, rfl, h1, h3⟩
theorem ms3 {a b c : Option V} {vs : List V} (h : [a, b, c] = vs.map some) : ∃ x y z, vs = [x, y, z] ∧ a = some x ∧ b = some y ∧ c = some z := by
  match vs, h with
  | x :: vs, h =>
    injection h with h1 h2
    obtain ⟨y, z, rfl, h3, h4⟩ := ms2 h2
    exact ⟨x, y, z, rfl, h1, h3, h4⟩
theorem mN {α : Type} {o : Option α} {f : α → V} (h : none = o.map f) : o = none := Option.map_eq_none_iff.mp h.symm
theorem mS {α : Type} {o : Option α} {f : α → V} {v : V} (h : o.map f = some v) : ∃ n, o = some n ∧ f n = v := Option.map_eq_some_iff.mp h
theorem deedW_kinds {w : Str} {rest : List Str} (hw : ∃ d : Dd, d.word = w) (hl : rest.length = (kindsL w).length) :
    (∀ vs : List V, osR w rest = vs.map some → ∃ d, deedW (w :: rest) = some d ∧ d.vs = .str w :: vs) ∧ (none ∈ osR w rest → deedW (w :: rest) = none) := by
  obtain ⟨d0, rfl⟩ := hw
  unfold osR
  rcases words4 d0 with e | e | e | e <;> rw [e] at hl ⊢ <;> clear e
  · rw [kl_put] at hl ⊢
    match rest, hl with
    | [a, b, c], _ =>
      show (∀ vs : List V, [partR "key" a, partR "key" b, partR "key" c] = vs.map some → _) ∧ (none ∈ [partR "key" a, partR "key" b, partR "key" c] → _)
      rw [dput, pR_key, pR_key, pR_key]
      refine ⟨fun vs h => ?_, fun h => ?_⟩
      · obtain ⟨x, y, z, rfl, h1, h2, h3⟩ := ms3 h
        obtain ⟨k, e1, rfl⟩ := mS h1
        obtain ⟨l, e2, rfl⟩ := mS h2
        obtain ⟨m, e3, rfl⟩ := mS h3
        rw [e1, e2, e3]
        exact ⟨_, rfl, rfl⟩
      · simp only [List.mem_cons, List.not_mem_nil, or_false] at h
        rcases h with h | h | h <;> rw [mN h]
        · cases numR a <;> rfl
        · cases numR a <;> cases numR b <;> rfl
  · rw [kl_drop] at hl ⊢
    match rest, hl with
    | [a], _ =>
      show (∀ vs : List V, [partR "key" a] = vs.map some → _) ∧ (none ∈ [partR "key" a] → _)
      rw [ddrop, pR_key]
      refine ⟨fun vs h => ?_, fun h => ?_⟩
      · obtain ⟨x, rfl, h1⟩ := ms1 h
        obtain ⟨k, e1, rfl⟩ := mS h1
        rw [e1]
        exact ⟨_, rfl, rfl⟩
      · rw [mN (List.mem_singleton.mp h)]
        rfl
  · rw [kl_add] at hl ⊢
    match rest, hl with
    | [a, b], _ =>
      show (∀ vs : List V, [partR "key" a, partR "more" b] = vs.map some → _) ∧ (none ∈ [partR "key" a, partR "more" b] → _)
      rw [dadd, pR_key, pR_more]
      refine ⟨fun vs h => ?_, fun h => ?_⟩
      · obtain ⟨x, y, rfl, h1, h2⟩ := ms2 h
        obtain ⟨k, e1, rfl⟩ := mS h1
        obtain ⟨l, e2, rfl⟩ := mS h2
        rw [e1, e2]
        exact ⟨_, rfl, rfl⟩
      · simp only [List.mem_cons, List.not_mem_nil, or_false] at h
        rcases h with h | h <;> rw [mN h]
        cases numR a <;> rfl
  · rw [kl_if] at hl ⊢
    match rest, hl with
    | [a, b], _ =>
      show (∀ vs : List V, [partR "key" a, partR "worth" b] = vs.map some → _) ∧ (none ∈ [partR "key" a, partR "worth" b] → _)
      rw [dif, pR_key, pR_worth]
      refine ⟨fun vs h => ?_, fun h => ?_⟩
      · obtain ⟨x, y, rfl, h1, h2⟩ := ms2 h
        obtain ⟨k, e1, rfl⟩ := mS h1
        obtain ⟨l, e2, rfl⟩ := mS h2
        rw [e1, e2]
        exact ⟨_, rfl, rfl⟩
      · simp only [List.mem_cons, List.not_mem_nil, or_false] at h
        rcases h with h | h <;> rw [mN h]
        cases numR a <;> rfl
theorem kl_len {w : Str} (h : ∃ d : Dd, d.word = w) : (kindsL w).length = arity w := by
  obtain ⟨d, rfl⟩ := h
  rcases words4 d with e | e | e | e <;> rw [e]
  · rw [kl_put, ar_put]; rfl
  · rw [kl_drop, ar_drop]; rfl
  · rw [kl_add, ar_add]; rfl
  · rw [kl_if, ar_if]; rfl
def vD : V → PyData
  | .int i => .int i
  | _ => .none
theorem partR_flat {kd x : Str} {v : V} (h : partR kd x = some v) : (∃ i, v = .int i) ∨ v = .non := by
  unfold partR at h
  split at h
  · obtain ⟨n, _, rfl⟩ := mS h
    cases n with
    | none => exact .inr rfl
    | some i => exact .inl ⟨i, rfl⟩
  · split at h
    · obtain ⟨n, _, rfl⟩ := mS h; exact .inl ⟨_, rfl⟩
    · obtain ⟨n, _, rfl⟩ := mS h; exact .inl ⟨_, rfl⟩
theorem osR_mem {w : Str} {rest : List Str} {o : Option V} (h : o ∈ osR w rest) : ∃ kd x, o = partR kd x := by
  unfold osR at h
  obtain ⟨i, hi⟩ := List.mem_iff_getElem?.mp h
  rw [List.getElem?_zipWith] at hi
  cases h1 : (kindsL w)[i]? with
  | none => rw [h1] at hi; simp at hi
  | some a =>
    cases h2 : rest[i]? with
    | none => rw [h1, h2] at hi; simp at hi
    | some b => rw [h1, h2] at hi; simp at hi; exact ⟨a, b, hi.symm⟩
def oD : Option V → PyData
  | none => .list []
  | some v => .list [vD v]
theorem dt_os {K : PySem.W.Frag} {H : Hp} {o : Option V} {l : Addr} (e : H l = some (.lst (optL o))) (hf : ∃ kd x, o = partR kd x) : Dt K H 1 (.ref l) (oD o) := by
  obtain ⟨kd, x, rfl⟩ := hf
  cases h : partR kd x with
  | none => rw [h] at e; exact Dt.lst e (DtA.nil 0)
  | some v =>
    rw [h] at e
    rcases partR_flat h with ⟨i, rfl⟩ | rfl
    · exact Dt.lst e ((Dt.int 0 i).cons (DtA.nil 0))
    · exact Dt.lst e ((Dt.non 0).cons (DtA.nil 0))
theorem dt_oss {K : PySem.W.Frag} {H : Hp} : ∀ {ls : List Addr} {os : List (Option V)}, Paired (fun l o => H l = some (.lst (optL o))) ls os → (∀ o ∈ os, ∃ kd x, o = partR kd x) → DtA K H 1 (ls.map V.ref) (os.map oD)
  | _, _, .nil, _ => DtA.nil 1
  | _, _, .cons h r, hf => (dt_os h (hf _ List.mem_cons_self)).cons (dt_oss r fun o ho => hf o (List.mem_cons_of_mem _ ho))
theorem any_os (os : List (Option V)) : ((os.map oD).any fun z => PyData.eqv z (.list [])) = os.any Option.isNone := by
  induction os with
  | nil => rfl
  | cons o os ih =>
    rw [List.map_cons, List.any_cons, List.any_cons, ih]
    congr 1
    cases o with
    | none => exact eqv_nil []
    | some v => exact eqv_nil [vD v]
theorem all_some : ∀ {os : List (Option V)}, os.any Option.isNone = false → ∃ vs : List V, os = vs.map some
  | [], _ => ⟨[], rfl⟩
  | none :: os, h => by simp at h
  | some v :: os, h => by
    obtain ⟨vs, e⟩ := all_some (os := os) (by simpa using h)
    exact ⟨v :: vs, by rw [e]; rfl⟩
theorem any_none_mem {os : List (Option V)} (h : os.any Option.isNone = true) : none ∈ os := by
  obtain ⟨o, ho, hn⟩ := List.any_eq_true.mp h
  cases o with
  | none => exact ho
  | some v => cases hn
/-- the law's table of kinds -/
def KindsAt (H : Hp) (dk : Addr) : Prop := ∃ kvs : List (Key × V), H dk = some (.dK kvs) ∧ (∀ w : Str, (∃ d : Dd, d.word = w) → ∃ l, valV kvs (.inr w : Key) = some (.ref l) ∧ H l = some (.lst ((kindsL w).map V.str))) ∧ ∀ w : Str, (¬ ∃ d : Dd, d.word = w) → valV kvs (.inr w : Key) = none
theorem KindsAt.at (H : Hp) {dk p1 p2 p3 p4 : Addr} (hd : H dk = some (.dK [(.inr "put", .ref p1), (.inr "drop", .ref p2), (.inr "add", .ref p3), (.inr "if", .ref p4)])) (h1 : H p1 = some (.lst [.str "key", .str "key", .str "key"])) (h2 : H p2 = some (.lst [.str "key"])) (h3 : H p3 = some (.lst [.str "key", .str "more"])) (h4 : H p4 = some (.lst [.str "key", .str "worth"])) : KindsAt H dk := by
  refine ⟨_, hd, fun w hw => ?_, fun w hw => ?_⟩
  · obtain ⟨d, rfl⟩ := hw
    rcases words4 d with e | e | e | e <;> rw [e]
    · rw [kl_put]; exact ⟨p1, by rfl, h1⟩
    · rw [kl_drop]; exact ⟨p2, by rfl, h2⟩
    · rw [kl_add]; exact ⟨p3, by rfl, h3⟩
    · rw [kl_if]; exact ⟨p4, by rfl, h4⟩
  · have n1 : ("put" : Str) ≠ w := fun z => hw ⟨.put 0 0 0, z⟩
    have n2 : ("drop" : Str) ≠ w := fun z => hw ⟨.drop 0, z⟩
    have n3 : ("add" : Str) ≠ w := fun z => hw ⟨.add 0 0, z⟩
    have n4 : ("if" : Str) ≠ w := fun z => hw ⟨.iff 0 none, z⟩
    unfold valV
    simp [n1, n2, n3, n4]
theorem KindsAt.kp {F : Addr → Prop} {H G : Hp} {dk : Addr} (k : Kp F H G) (h : KindsAt H dk) (n : ∀ b, F b → H b = none) : KindsAt G dk := by
  obtain ⟨kvs, e, h1, h2⟩ := h
  refine ⟨kvs, k _ _ e fun _ z => (by rw [n _ z] at e; cases e), fun w hw => ?_, h2⟩
  obtain ⟨l, e1, e2⟩ := h1 w hw
  exact ⟨l, e1, k _ _ e2 fun _ z => (by rw [n _ z] at e2; cases e2)⟩
section
variable {P : Program} {w : World} {K : PySem.W.Frag} {mg : Str → Option Value} {base : Heap} {A : Ad} {B fR fI pR pL : Addr}
abbrev Nscrow : List Str := ["_law_row_here", "_law_halves", "_law_heads", "_law_kinds", "_law_deeds", "_law_part_here", "_law_words", "_law_parts", "_law_k", "_law_head", "_law_one"]
theorem scrow : FnScope Nscrow ["_law_row_here"] (defScope s_row) := ⟨rfl, rfl, rfl, by decide +kernel, rfl, by decide +kernel, by decide +kernel⟩
def spRowL : Sp := fun vs H Q _ => ∃ (x : Str), vs = [.str x] ∧ (tl x).length ≤ 50000 ∧ Sg x ∧ (rowR x = none → ∀ G, Kp No H G → Q .non G) ∧ ∀ g, rowR x = some g → ∀ G u, Kp No H G → GdAt G (.ref u) g → Q (.ref u) G
theorem ok_rowL (T : Txt K mg A) : ∃ fd, FnOk P w K mg base CX0 3 (A.d 54) fd ["_law_row_here"] spRowL ∧ Binds K fd ["_law_row_here"] [] := by
  obtain ⟨fd, F⟩ := T.row.fn
  obtain ⟨fd1, Gnumber, bnumber⟩ := ok_numL (P := P) (w := w) (base := base) T
  obtain ⟨fd2, Gpart, bpart⟩ := ok_part (P := P) (w := w) (base := base) T
  refine ⟨fd, F.ok scrow (fun vs H Q E h => ?_) (fun cdv Ar outer s0 H vs Q E hr h => ?_), F.binds fun _ _ _ _ _ _ us hl => match us, hl with | [_], _ => rfl⟩
  · obtain ⟨x, rfl, _⟩ := h
    rfl
  · obtain ⟨x, rfl, hsz, hsg, kN, kS⟩ := h
    have hu := hu_of hr
    refine ⟨_, (pss_cons (ps_set (i := 1) scrow.nd rfl (Or.inl rfl) (pe_split (pv 0) pe_str))
      (pss_cons (ps_set (i := 2) scrow.nd rfl (Or.inl rfl) (pe_split (pe_ix ix_list (pv 1) pe_int (fun _ _ => rfl)) pe_str))
      (pss_cons (ps_if (PW.pt (pw_or (pt_cmpR op_ne (pe_callB call_len_seq (by rfl) T.len PySem.boot_len (pa_cons (pv 1) pa_nil)) pe_int (nomark _)) (pw_or (pt_cmpR op_ne (pe_callB call_len_seq (by rfl) T.len PySem.boot_len (pa_cons (pv 2) pa_nil)) pe_int (nomark _)) (pw_or1 (pt_cmpR (op_inD (by have := hr.un; show (Ar.deeper _).units + 65 < _; omega)) pe_non (pe_lc (own := [("_law_head", 9)]) (g := (gName 9)) (by rfl) scrow.nd (pi_list (pv 2)) (blkOk_by (N := Nscrow) (sc := defScope s_row) (by decide +kernel)) (fun _ _ _ _ _ => pg_name (i := 9) scrow.nd rfl (Or.inl rfl)) (fun _ _ _ _ _ => pts_nil) (fun _ _ _ _ _ => (pe_call Gnumber (hr.mono (by first | decide | omega)) rfl T.number.at_ T.number.kp bnumber .nil pass0 (pa_cons (pv 9) pa_nil)))) rfl)))))
        (pss_one (ps_ret pe_non))
        pss_nil)
      (pss_cons (ps_set (i := 3) scrow.nd rfl (Or.inr rfl) (pe_disp (pps_cons pe_str (pe_lst (pa_cons pe_str (pa_cons pe_str (pa_cons pe_str pa_nil)))) (pps_cons pe_str (pe_lst (pa_cons pe_str pa_nil)) (pps_cons pe_str (pe_lst (pa_cons pe_str (pa_cons pe_str pa_nil))) (pps_cons pe_str (pe_lst (pa_cons pe_str (pa_cons pe_str pa_nil))) pps_nil)))) (by rfl) (by rfl) (fun z => by cases z) (by decide)))
      (pss_cons (ps_set (i := 4) scrow.nd rfl (Or.inl rfl) (pe_lst pa_nil))
      (pss_cons (ps_for PassesOwn.never rfl (pi_list (pe_split (pe_ix ix_list (pv 1) pe_int (fun _ _ => rfl)) pe_str)) (pg_name (i := 5) scrow.nd rfl (Or.inl rfl))
        (pss_cons (ps_set (i := 6) scrow.nd rfl (Or.inr rfl) (pe_split (pv 5) pe_str))
        (pss_cons (ps_if (PW.pt (pw_or (pt_cmp (pc_dnotin hu (pe_ix ix_list (pv 6) pe_int (fun _ _ => rfl)) (pv 3))) (pw_or1 (pt_cmpR op_ne (pe_callB call_len_seq (by rfl) T.len PySem.boot_len (pa_cons (pv 6) pa_nil)) (pe_op op_add (pe_callB call_len_seq (by rfl) T.len PySem.boot_len (pa_cons (pe_dget hu (pv 3) (pe_ix ix_list (pv 6) pe_int (fun _ _ => rfl)) (fun _ _ => rfl)) pa_nil)) pe_int) (nomark _)))))
          (pss_one (ps_ret pe_non))
          pss_nil)
        (pss_cons (ps_setLc (i := 7) (own := [("_law_k", 8)]) (g := (gName 8)) (te := tCall spPart [] E0 (tCons (tOp (rIxL K) (tVar 6) (tOp (rI0 fun i j => V.int (i + j)) (tVar 8) (tC (.int 1)))) (tCons (tOp (rIxL K) (tDGet (tVar 3) (tOp (rIxL K) (tVar 6) (tC (.int 0)))) (tVar 8)) tNil))) (by rfl) scrow.nd rfl rfl (sw_true rfl rfl rfl (by decide +kernel)) (pi_range1 (by rfl) T.range (pa_cons (pe_op op_sub (pe_callB call_len_seq (by rfl) T.len PySem.boot_len (pa_cons (pv 6) pa_nil)) pe_int) pa_nil)) (blkOk_by (N := Nscrow) (sc := defScope s_row) (by decide +kernel)) (fun _ _ _ _ _ => pg_name (i := 8) scrow.nd rfl (Or.inl rfl)) (fun _ _ _ _ _ => pts_nil) (fun _ _ _ _ _ => by exact (pe_call Gpart (hr.mono (by first | decide | omega)) rfl T.part.at_ T.part.kp bpart .nil pass0 (pa_cons (pe_ix ix_list (pv 6) (pe_op op_add (pv 8) pe_int) (fun _ _ => rfl)) (pa_cons (pe_ix ix_list (pe_dget hu (pv 3) (pe_ix ix_list (pv 6) pe_int (fun _ _ => rfl)) (fun _ _ => rfl)) (pv 8) (fun _ _ => rfl)) pa_nil)))))
        (pss_cons (ps_if (pt_cmpR (op_inD (by have := hr.un; show (Ar.deeper _).units + 65 < _; omega)) (pe_lst pa_nil) (pv 7) rfl)
          (pss_one (ps_ret pe_non))
          pss_nil)
        (pss_one (ps_expr (pe_bm PySem.F.plainAttrs_list PySem.F.slot_list_append PySem.F.type_list_append mt_append (pv 4) (pa_cons (pe_callTy call_tuple_of (by rfl) T.tuple (by decide +kernel) (pa_cons (pe_op op_cat (pe_lst (pa_cons (pe_ix ix_list (pv 6) pe_int (fun _ _ => rfl)) pa_nil)) (pe_lc (own := [("_law_one", 10)]) (g := (gName 10)) (te := tOp (rIxL K) (tVar 10) (tC (.int 0))) (by rfl) scrow.nd (pi_list (pv 7)) (blkOk_by (N := Nscrow) (sc := defScope s_row) (by decide +kernel)) (fun _ _ _ _ _ => pg_name (i := 10) scrow.nd rfl (Or.inl rfl)) (fun _ _ _ _ _ => pts_nil) (fun _ _ _ _ _ => by exact (pe_ix ix_list (pv 10) pe_int (fun _ _ => rfl))))) pa_nil)) pa_nil)))))))))
      (pss_one (ps_ret (pe_tup (pa_cons (pe_callTy call_int_str (by rfl) T.int (by decide +kernel) (pa_cons (pe_ix ix_list (pv 2) pe_int (fun _ _ => rfl)) pa_nil)) (pa_cons (pe_callTy call_int_str (by rfl) T.int (by decide +kernel) (pa_cons (pe_ix ix_list (pv 2) pe_int (fun _ _ => rfl)) pa_nil)) (pa_cons (pe_callTy call_tuple_of (by rfl) T.tuple (by decide +kernel) (pa_cons (pv 4) pa_nil)) pa_nil)))))))))))), ?_⟩
    have kv9 : rowL x = rowR x := rowL_eq x
    rw [← kv9] at kN kS
    unfold rowL at kN kS
    refine ⟨_, rfl, ⟨_, rfl⟩, x, ": ", rfl, rfl, by decide +kernel, by rw [len_tl]; exact Nat.le_trans (Nat.add_le_add_right hsz 2) (by decide), ?_⟩
    have l1 : ∀ y ∈ Txt.split x ": ", (tl y).length ≤ 50000 ∧ Sg y := fun y hy => ⟨by have := sepC.pcs hy; omega, sepC.sg hy hsg⟩
    have n1 := sepC.some x
    have m1 := sepC.len x
    generalize Txt.split x ": " = hs at kN kS l1 n1 m1 ⊢
    refine fun q1 nq1 => ?_
    have k1 : Kp No H (upd H q1 (.lst (hs.map V.str))) := Kp.new nq1
    have e1 : upd H q1 (.lst (hs.map V.str)) q1 = some (.lst (hs.map V.str)) := upd_same
    generalize upd H q1 (.lst (hs.map V.str)) = H1 at k1 e1 ⊢
    obtain ⟨h0, hr0, rfl⟩ : ∃ a r, hs = a :: r := by
      cases hs with
      | nil => exact absurd rfl n1
      | cons a r => exact ⟨a, r, rfl⟩
    obtain ⟨lh0, sh0⟩ := l1 h0 List.mem_cons_self
    refine ⟨_, rfl, q1, _, 0, _, rfl, rfl, SqL.of e1, atI_nat (j := 0) rfl, ⟨_, rfl⟩, h0, " ", rfl, rfl, by decide +kernel, by rw [len_tl]; exact Nat.le_trans (Nat.add_le_add_right lh0 2) (by decide), ?_⟩
    have l2 : ∀ y ∈ Txt.split h0 " ", (tl y).length ≤ 50000 ∧ Sg y := fun y hy => ⟨by have := sepS.pcs hy; omega, sepS.sg hy sh0⟩
    have m2 := sepS.len h0
    generalize hws : Txt.split h0 " " = ws at l2 m2 ⊢
    refine fun q2 nq2 => ?_
    have k2' : Kp No H1 (upd H1 q2 (.lst (ws.map V.str))) := Kp.new nq2
    have e2 : upd H1 q2 (.lst (ws.map V.str)) q2 = some (.lst (ws.map V.str)) := upd_same
    generalize upd H1 q2 (.lst (ws.map V.str)) = H2 at k2' e2 ⊢
    have k2 : Kp No H H2 := k1.trans k2' fun _ z => False.elim z
    have e1' := k2'.t.lst e1 fun z => z
    have lenB : ∀ (n : Nat) (l : List V), (!decide (V.int ((l.length : Nat) : Int) = V.int (n : Nat))) = !decide (l.length = n) := fun n l => by
      by_cases z : l.length = n
      · rw [z]; simp
      · rw [decide_eq_false z, decide_eq_false fun q => z (by injection q with q; omega)]
    refine ⟨_, rfl, q1, _, rfl, .inl (SqL.of e1'), rfl, _, rfl, ?_⟩
    rw [show (!decide (V.int ((((h0 :: hr0).map V.str).length : Nat) : Int) = V.int 2)) = !decide (((h0 :: hr0).map V.str).length = 2) from lenB 2 _]
    by_cases c1 : ((h0 :: hr0).map V.str).length = 2
    rotate_left
    · rw [decide_eq_false c1]
      refine iteT (iteT (kN ?_ H2 k2))
      split
      · rename_i a b e; rw [e] at c1; exact absurd rfl c1
      · rfl
    rw [decide_eq_true c1]
    obtain ⟨h1, rfl⟩ : ∃ b, hr0 = [b] := by
      match hr0, c1 with
      | [b], _ => exact ⟨b, rfl⟩
    obtain ⟨lh1, sh1⟩ := l1 h1 (by simp)
    refine iteF ⟨_, rfl, q2, _, rfl, .inl (SqL.of e2), rfl, _, rfl, ?_⟩
    rw [show (!decide (V.int (((ws.map V.str).length : Nat) : Int) = V.int 2)) = !decide ((ws.map V.str).length = 2) from lenB 2 _]
    have kN : bothR (headR (Txt.split h0 " ")) (deedsR (Txt.split h1 "; ")) = none → ∀ G, Kp No H G → Q .non G := kN
    have kS : ∀ g, bothR (headR (Txt.split h0 " ")) (deedsR (Txt.split h1 "; ")) = some g → ∀ G u, Kp No H G → GdAt G (.ref u) g → Q (.ref u) G := kS
    rw [hws] at kN kS
    by_cases c2 : (ws.map V.str).length = 2
    rotate_left
    · rw [decide_eq_false c2]
      refine iteT (iteT (kN ?_ H2 k2))
      have : headR ws = none := by
        unfold headR
        split
        · exact absurd rfl c2
        · rfl
      rw [this]
      rfl
    rw [decide_eq_true c2]
    obtain ⟨w0, w1, rfl⟩ : ∃ a b, ws = [a, b] := by
      match ws, c2 with
      | [a, b], _ => exact ⟨a, b, rfl⟩
    refine iteF ⟨_, rfl, q2, rfl, ⟨_, SqL.of e2⟩, fun D nD => ?_⟩
    have nqD : q2 ≠ D := fun z => by rw [z, nD] at e2; cases e2
    refine lc_list (K := K) (a := q2) (xs := [w0, w1].map V.str) (fun i J => Kp (fun b => b = D) H2 J ∧ J D = some (.lst (([w0, w1].take i).map fun w => oN (numR w)))) ⟨Kp.new nD, upd_same⟩ (fun i J _ ⟨kJ, _⟩ => SqL.of (kJ.t.lst e2 nqD)) ?_ ?_
    · rintro i y J hy ⟨kJ, eJ⟩
      rw [List.getElem?_map] at hy
      obtain ⟨m, hm, rfl⟩ : ∃ m, [w0, w1][i]? = some m ∧ V.str m = y := by
        cases e : [w0, w1][i]? with
        | none => rw [e] at hy; cases hy
        | some m => rw [e] at hy; exact ⟨m, rfl, Option.some.inj hy⟩
      obtain ⟨lm, sm⟩ := l2 m (List.mem_of_getElem? hm)
      refine ⟨rfl, _, rfl, m, rfl, lm, sm, fun G kG => ?_⟩
      have eG := kG.t.lst eJ fun z => z
      refine ⟨_, eG, szL (by rw [List.length_map, List.length_take]; simp; omega), (kJ.trans kG fun _ z => False.elim z).trans (show Kp (fun b => b = D) G _ from Kp.updL eG rfl) fun b z => .inl z, ?_⟩
      rw [upd_same, take_snoc hm, List.map_append]
      rfl
    · rintro J ⟨kJ, eJ⟩
      have kHJ : Kp No H J := k2.trans (kp_fresh kJ fun b z => by rw [show b = D from z]; exact nD) fun _ z => False.elim z
      have eJ : J D = some (.lst [oN (numR w0), oN (numR w1)]) := eJ
      have e1J := kJ.t.lst e1' fun z => by rw [show q1 = D from z, nD] at e1'; cases e1'
      have e2J := kJ.t.lst e2 nqD
      have dl := Dt.lst (K := K) eJ ((dt_oN (numR w0)).cons ((dt_oN (numR w1)).cons (DtA.nil 0)))
      refine ⟨_, _, .non, dl.1, by decide +kernel, dl.shaped (by decide), _, rfl, ?_⟩
      rw [any_none]
      by_cases hb : numR w0 = none ∨ numR w1 = none
      · rw [show ((numR w0).isNone || (numR w1).isNone) = true from by
          rcases hb with h | h <;> rw [h] <;> simp]
        refine iteT (kN ?_ J kHJ)
        rw [headR_bad hb]
        rfl
      obtain ⟨hN, e0⟩ : ∃ n, numR w0 = some n := by
        cases h : numR w0 with
        | none => exact absurd (.inl h) hb
        | some n => exact ⟨n, rfl⟩
      obtain ⟨xN, ex1⟩ : ∃ n, numR w1 = some n := by
        cases h : numR w1 with
        | none => exact absurd (.inr h) hb
        | some n => exact ⟨n, rfl⟩
      rw [e0, ex1]
      rw [headR_ok e0 ex1] at kN kS
      refine iteF ?_
      -- the dict
      refine fun dk ndk => ?_
      have g0 : Kp (fun b => b = dk) J (upd J dk (.dK [])) := Kp.new ndk
      have d0 : upd J dk (.dK []) dk = some (.dK []) := upd_same
      generalize upd J dk (.dK []) = F0 at g0 d0 ⊢
      refine ⟨sz 3 (by decide), fun p1 np1 => ?_⟩
      have g1 := g0.andN (o' := .lst [.str "key", .str "key", .str "key"]) np1
      have d1 : upd F0 p1 (.lst [.str "key", .str "key", .str "key"]) dk = some (.dK []) := (upd_ne (ne_of_none d0 np1)).trans d0
      have c11 : upd F0 p1 (.lst [.str "key", .str "key", .str "key"]) p1 = _ := upd_same
      generalize upd F0 p1 (.lst [.str "key", .str "key", .str "key"]) = F1 at g1 d1 c11 ⊢
      refine ⟨sz 1 (by decide), fun p2 np2 => ?_⟩
      have g2 := g1.andN (o' := .lst [.str "key"]) np2
      have d2 : upd F1 p2 (.lst [.str "key"]) dk = some (.dK []) := (upd_ne (ne_of_none d1 np2)).trans d1
      have c21 : upd F1 p2 (.lst [.str "key"]) p1 = _ := (upd_ne (ne_of_none c11 np2)).trans c11
      have c22 : upd F1 p2 (.lst [.str "key"]) p2 = _ := upd_same
      generalize upd F1 p2 (.lst [.str "key"]) = F2 at g2 d2 c21 c22 ⊢
      refine ⟨sz 2 (by decide), fun p3 np3 => ?_⟩
      have g3 := g2.andN (o' := .lst [.str "key", .str "more"]) np3
      have d3 : upd F2 p3 (.lst [.str "key", .str "more"]) dk = some (.dK []) := (upd_ne (ne_of_none d2 np3)).trans d2
      have c31 : upd F2 p3 (.lst [.str "key", .str "more"]) p1 = _ := (upd_ne (ne_of_none c21 np3)).trans c21
      have c32 : upd F2 p3 (.lst [.str "key", .str "more"]) p2 = _ := (upd_ne (ne_of_none c22 np3)).trans c22
      have c33 : upd F2 p3 (.lst [.str "key", .str "more"]) p3 = _ := upd_same
      generalize upd F2 p3 (.lst [.str "key", .str "more"]) = F3 at g3 d3 c31 c32 c33 ⊢
      refine ⟨sz 2 (by decide), fun p4 np4 => ?_⟩
      have g4 := g3.andN (o' := .lst [.str "key", .str "worth"]) np4
      have d4 : upd F3 p4 (.lst [.str "key", .str "worth"]) dk = some (.dK []) := (upd_ne (ne_of_none d3 np4)).trans d3
      have c41 : upd F3 p4 (.lst [.str "key", .str "worth"]) p1 = _ := (upd_ne (ne_of_none c31 np4)).trans c31
      have c42 : upd F3 p4 (.lst [.str "key", .str "worth"]) p2 = _ := (upd_ne (ne_of_none c32 np4)).trans c32
      have c43 : upd F3 p4 (.lst [.str "key", .str "worth"]) p3 = _ := (upd_ne (ne_of_none c33 np4)).trans c33
      have c44 : upd F3 p4 (.lst [.str "key", .str "worth"]) p4 = _ := upd_same
      generalize upd F3 p4 (.lst [.str "key", .str "worth"]) = F4 at g4 d4 c41 c42 c43 c44 ⊢
      refine ⟨d4, [(.inr "put", .ref p1), (.inr "drop", .ref p2), (.inr "add", .ref p3), (.inr "if", .ref p4)], rfl, by show 4 ≤ 15; decide, ?_⟩
      have gk := g4.andD (o' := .dK [(.inr "put", .ref p1), (.inr "drop", .ref p2), (.inr "add", .ref p3), (.inr "if", .ref p4)]) d4 rfl
      have KA : KindsAt (upd F4 dk (.dK [(.inr "put", .ref p1), (.inr "drop", .ref p2), (.inr "add", .ref p3), (.inr "if", .ref p4)])) dk := KindsAt.at _ upd_same
        ((upd_ne fun z => by rw [z, d4] at c41; cases c41).trans c41) ((upd_ne fun z => by rw [z, d4] at c42; cases c42).trans c42) ((upd_ne fun z => by rw [z, d4] at c43; cases c43).trans c43) ((upd_ne fun z => by rw [z, d4] at c44; cases c44).trans c44)
      have kF : Kp No J (upd F4 dk (.dK [(.inr "put", .ref p1), (.inr "drop", .ref p2), (.inr "add", .ref p3), (.inr "if", .ref p4)])) := kp_fresh gk fun b z => by rw [show b = dk from z]; exact ndk
      show gName 3 (.ref dk) _ (upd F4 dk (.dK [(.inr "put", .ref p1), (.inr "drop", .ref p2), (.inr "add", .ref p3), (.inr "if", .ref p4)])) _
      generalize upd F4 dk (.dK [(.inr "put", .ref p1), (.inr "drop", .ref p2), (.inr "add", .ref p3), (.inr "if", .ref p4)]) = F5 at gk KA kF ⊢
      have e1F : F5 q1 = some (.lst ([h0, h1].map V.str)) := gk.t.lst e1J fun z => by rw [show q1 = dk from z, ndk] at e1J; cases e1J
      have e2F : F5 q2 = some (.lst ([w0, w1].map V.str)) := gk.t.lst e2J fun z => by rw [show q2 = dk from z, ndk] at e2J; cases e2J
      have kHF : Kp No H F5 := kHJ.trans kF fun _ z => False.elim z
      refine ⟨sz 0 (by decide), fun dl ndl => ?_⟩
      have kl : Kp (fun b => b = dl) F5 (upd F5 dl (.lst [])) := Kp.new ndl
      have el : upd F5 dl (.lst []) dl = some (.lst []) := upd_same
      generalize upd F5 dl (.lst []) = F6 at kl el ⊢
      have nql : q1 ≠ dl := fun z => by rw [z, ndl] at e1F; cases e1F
      have e1G := kl.t.lst e1F nql
      refine ⟨_, rfl, q1, _, 1, _, rfl, rfl, SqL.of e1G, atI_nat (j := 1) rfl, ⟨_, rfl⟩, h1, "; ", rfl, rfl, by decide +kernel, by rw [len_tl]; exact Nat.le_trans (Nat.add_le_add_right lh1 2) (by decide), ?_⟩
      have l3 : ∀ y ∈ Txt.split h1 "; ", (tl y).length ≤ 50000 ∧ Sg y := fun y hy => ⟨by have := sepD.pcs hy; omega, sepD.sg hy sh1⟩
      have m3 := sepD.len h1
      generalize Txt.split h1 "; " = pcs at l3 m3 kN kS ⊢
      refine fun q3 nq3 => ?_
      have kq3 : Kp (fun b => b = dl) F5 (upd F6 q3 (.lst (pcs.map V.str))) := kl.andN nq3
      have e3 : upd F6 q3 (.lst (pcs.map V.str)) q3 = some (.lst (pcs.map V.str)) := upd_same
      have el3 : upd F6 q3 (.lst (pcs.map V.str)) dl = some (.lst []) := (upd_ne (ne_of_none el nq3)).trans el
      generalize upd F6 q3 (.lst (pcs.map V.str)) = F7 at kq3 e3 el3 ⊢
      have nq3l : q3 ≠ dl := fun z => by rw [z, el] at nq3; cases nq3
      have back : ∀ {G : Hp}, Kp (fun b => b = dl) F5 G → Kp No H G := fun kG => kHF.trans (kp_fresh kG fun b z => by rw [show b = dl from z]; exact ndl) fun _ z => False.elim z
      have nF5 : ∀ b, (fun b => b = dl) b → F5 b = none := fun b z => by rw [show b = dl from z]; exact ndl
      refine ⟨q3, rfl, ⟨_, SqL.of e3⟩, for_list (K := K) (a := q3) (xs := pcs.map V.str) (fun i σ G => (∃ o5 o6 o7 o8 o9 o10, σ = [some (.str x), some (.ref q1), some (.ref q2), some (.ref dk), some (.ref dl), o5, o6, o7, o8, o9, o10]) ∧ Kp (fun b => b = dl) F5 G ∧ G q3 = some (.lst (pcs.map V.str)) ∧ ∃ acc ds, G dl = some (.lst acc) ∧ Paired (fun x d => deedR x = some d) (pcs.take i) ds ∧ Paired (DdAt G) acc ds) ⟨⟨_, _, _, _, _, _, rfl⟩, kq3, e3, [], [], el3, .nil, .nil⟩ (fun i σ G _ ⟨_, _, e, _⟩ => SqL.of e) ?_ ?_⟩
      · rintro i y σ G hy ⟨⟨o5, o6, o7, o8, o9, o10, rfl⟩, kG, eq3, acc, ds, eA, pd, pA⟩
        rw [List.getElem?_map] at hy
        obtain ⟨m, hm, rfl⟩ : ∃ m, pcs[i]? = some m ∧ V.str m = y := by
          cases e : pcs[i]? with
          | none => rw [e] at hy; cases hy
          | some m => rw [e] at hy; exact ⟨m, rfl, Option.some.inj hy⟩
        have hi := (List.getElem?_eq_some_iff.mp hm).1
        obtain ⟨lm, sm⟩ := l3 m (List.mem_of_getElem? hm)
        refine ⟨_, rfl, ⟨_, rfl⟩, m, " ", rfl, rfl, by decide +kernel, by rw [len_tl]; exact Nat.le_trans (Nat.add_le_add_right lm 2) (by decide), ?_⟩
        have l4 : ∀ y ∈ Txt.split m " ", (tl y).length ≤ 50000 ∧ Sg y := fun y hy => ⟨by have := sepS.pcs hy; omega, sepS.sg hy sm⟩
        have n4 := sepS.some m
        have m4 := sepS.len m
        have dR : deedR m = deedW (Txt.split m " ") := rfl
        generalize Txt.split m " " = ws at l4 n4 m4 dR ⊢
        obtain ⟨wd, rest, rfl⟩ : ∃ w r, ws = w :: r := by
          cases ws with
          | nil => exact absurd rfl n4
          | cons w r => exact ⟨w, r, rfl⟩
        refine fun q4 nq4 => ?_
        have kG1 : Kp (fun b => b = dl) F5 (upd G q4 (.lst ((wd :: rest).map V.str))) := kG.andN nq4
        have e4 : upd G q4 (.lst ((wd :: rest).map V.str)) q4 = some (.lst ((wd :: rest).map V.str)) := upd_same
        have k44 : Kp No G (upd G q4 (.lst ((wd :: rest).map V.str))) := Kp.new nq4
        generalize upd G q4 (.lst ((wd :: rest).map V.str)) = G1 at kG1 e4 k44 ⊢
        have KG := KA.kp kG1 nF5
        obtain ⟨kvs, ekd, hget, hno⟩ := KG
        have bad : deedR m = none → bothR (some (hN, xN)) (deedsR pcs) = none := fun h => by rw [deedsR_bad hm h]; rfl
        refine ⟨_, rfl, q4, _, 0, _, rfl, rfl, SqL.of e4, atI_nat (j := 0) rfl, _, rfl, dk, _, rfl, DGet.k (k := .inr wd) ekd, _, rfl, ?_⟩
        by_cases hw : ∃ d : Dd, d.word = wd
        rotate_left
        · rw [hno wd hw]
          refine iteT (iteT (kN (bad ?_) _ (back kG1)))
          rw [dR]
          cases e : deedW (wd :: rest) with
          | none => rfl
          | some d => exact absurd (deedW_word e).1 hw
        obtain ⟨kl, hkl, ekl⟩ := hget wd hw
        rw [hkl]
        refine iteF ⟨_, rfl, q4, _, rfl, .inl (SqL.of e4), _, rfl, _, rfl, q4, _, 0, _, rfl, rfl, SqL.of e4, atI_nat (j := 0) rfl, dk, .ref kl, rfl, by have := DGet.k (k := (.inr wd : Key)) ekd; rw [hkl] at this; exact this, kl, _, rfl, .inl (SqL.of ekl), _, _, rfl, rfl, rfl, _, rfl, ?_⟩
        have eb : (!decide (V.int ((((wd :: rest).map V.str).length : Nat) : Int) = V.int ((((kindsL wd).map V.str).length : Nat) + 1))) = !decide (rest.length = (kindsL wd).length) := by
          rw [List.length_map, List.length_map, List.length_cons]
          by_cases z : rest.length = (kindsL wd).length
          · rw [z]; simp
          · rw [decide_eq_false z, decide_eq_false fun q => z (by injection q with q; omega)]
        rw [eb]
        by_cases hl : rest.length = (kindsL wd).length
        rotate_left
        · rw [decide_eq_false hl]
          refine iteT (kN (bad ?_) _ (back kG1))
          rw [dR]
          cases e : deedW (wd :: rest) with
          | none => rfl
          | some d => exact absurd ((deedW_word e).2.trans (kl_len hw).symm) hl
        rw [decide_eq_true hl]
        refine iteF ?_
        obtain ⟨D1, D2⟩ := deedW_kinds hw hl
        have l9 : rest.length ≤ 3 := by rw [hl, kl_len hw]; exact (ar_le wd).2
        refine ⟨_, rfl, q4, _, rfl, .inl (SqL.of e4), _, _, rfl, rfl, _, rfl, by rw [List.length_map, List.length_cons]; omega, by rw [List.length_map, List.length_cons]; omega, fun D nD => ?_⟩
        rw [show ((((wd :: rest).map V.str).length : Nat) - 1 : Int).toNat = rest.length by rw [List.length_map, List.length_cons]; omega]
        have nq4 : q4 ≠ D := fun z => by rw [z, nD] at e4; cases e4
        have nkl : kl ≠ D := fun z => by rw [z, nD] at ekl; cases ekl
        have lo : (osR wd rest).length = rest.length := by unfold osR; rw [List.length_zipWith, hl, Nat.min_self]
        refine lc_range (fun i J => Kp (fun b => b = D) G1 J ∧ ∃ ls : List Addr, J D = some (.lst (ls.map V.ref)) ∧ Paired (fun l o => l ≠ D ∧ J l = some (.lst (optL o))) ls ((osR wd rest).take i)) ⟨Kp.new nD, [], upd_same, .nil⟩ ?_ ?_
        · rintro i J hi ⟨kJ, ls, eD, pl⟩
          have e4J := kJ.t.lst e4 nq4
          have eklJ := kJ.t.lst ekl nkl
          have ekdJ : J dk = some (.dK kvs) := kJ _ _ ekd fun _ z => by rw [show dk = D from z, nD] at ekd; cases ekd
          obtain ⟨wi, hwi⟩ : ∃ a, rest[i]? = some a := ⟨rest[i], List.getElem?_eq_getElem hi⟩
          obtain ⟨ki, hki⟩ : ∃ a, (kindsL wd)[i]? = some a := ⟨(kindsL wd)[i]'(by rw [← hl]; exact hi), List.getElem?_eq_getElem _⟩
          have hos : (osR wd rest)[i]? = some (partR ki wi) := by
            unfold osR
            rw [List.getElem?_zipWith, hki, hwi]
          obtain ⟨lwi, swi⟩ := l4 wi (List.mem_cons_of_mem _ (List.mem_of_getElem? hwi))
          refine ⟨rfl, _, rfl, _, rfl, _, _, rfl, rfl, q4, _, 0 + (i : Int) + 1, .str wi, rfl, rfl, SqL.of e4J, ?_, _, rfl, _, rfl, q4, _, 0, _, rfl, rfl, SqL.of e4J, atI_nat (j := 0) rfl, dk, .ref kl, rfl, by have := DGet.k (k := (.inr wd : Key)) ekdJ; rw [hkl] at this; exact this, _, rfl, kl, _, 0 + (i : Int), .str ki, rfl, rfl, SqL.of eklJ, ?_, wi, ki, rfl, lwi, swi, fun G2 l nl0 kG2 el2 => ?_⟩
          · rw [show (0 + (i : Int) + 1) = ((i + 1 : Nat) : Int) by omega]
            exact atI_nat (by rw [List.getElem?_map, List.getElem?_cons_succ, hwi]; rfl)
          · rw [show (0 + (i : Int)) = ((i : Nat) : Int) by omega]
            exact atI_nat (by rw [List.getElem?_map, hki]; rfl)
          · have eD2 := kG2.t.lst eD fun z => z
            have llen := pl.length
            rw [List.length_take] at llen
            have lD : l ≠ D := fun z => by rw [z, eD] at nl0; cases nl0
            have kU : Kp (fun b => b = D) G2 (upd G2 D (.lst (ls.map V.ref ++ [.ref l]))) := Kp.updL eD2 rfl
            refine ⟨_, eD2, szL (by rw [List.length_map]; omega), (kJ.trans kG2 fun _ z => False.elim z).trans kU fun b z => .inl z, ls ++ [l], ?_, ?_⟩
            · rw [upd_same, List.map_append]
              rfl
            · rw [take_snoc hos]
              exact (pl.mono fun l' o z => ⟨z.1, (upd_ne z.1).trans (kG2.t.lst z.2 fun q => q)⟩).snoc ⟨lD, (upd_ne lD).trans el2⟩
        · rintro J ⟨kJ, ls, eD, pl⟩
          rw [← lo, List.take_length] at pl
          have hJ : Kp No H J := (back kG1).trans (kp_fresh kJ fun b z => by rw [show b = D from z]; exact nD) fun _ z => False.elim z
          have kGJ : Kp (fun b => b = dl) F5 J := kG1.trans (kp_fresh (F' := No) kJ fun b z => by rw [show b = D from z]; exact nD) fun _ z => False.elim z
          have pl : Paired (fun l o => J l = some (.lst (optL o))) ls (osR wd rest) := pl.mono fun _ _ z => z.2
          refine ⟨sz 0 (by decide), fun e ne => ?_⟩
          have kJe : Kp No J (upd J e (.lst [])) := Kp.new ne
          have ee : upd J e (.lst []) e = some (.lst []) := upd_same
          generalize upd J e (.lst []) = J2 at kJe ee ⊢
          have eD2 := kJe.t.lst eD fun z => z
          have pl2 : Paired (fun l o => J2 l = some (.lst (optL o))) ls (osR wd rest) := pl.mono fun _ _ z => kJe.t.lst z fun q => q
          have dts := dt_oss (K := K) pl2 fun o ho => osR_mem ho
          have dl2 := Dt.lst eD2 dts
          refine ⟨_, rfl, _, _, .lst (SqL.of ee) .nil, dl2.1, shaped_nil, dl2.shaped (by decide), _, rfl, ?_⟩
          rw [any_os]
          cases hany : (osR wd rest).any Option.isNone with
          | true => exact iteT (kN (bad (by rw [dR]; exact D2 (any_none_mem hany))) _ (hJ.trans kJe fun _ z => False.elim z))
          | false =>
          obtain ⟨vs, evs⟩ := all_some hany
          obtain ⟨d, hd, hvs⟩ := D1 vs evs
          rw [evs] at pl2
          refine iteF ?_
          have kGJ2 : Kp (fun b => b = dl) F5 J2 := kGJ.trans kJe fun _ z => False.elim z
          have kGa : Kp No G J2 := (k44.trans (kp_fresh (F' := No) kJ fun b z => by rw [show b = D from z]; exact nD) fun _ z => False.elim z).trans kJe fun _ z => False.elim z
          have eA2 := kGa.t.lst eA fun z => z
          have e4J2 : J2 q4 = some (.lst ((wd :: rest).map V.str)) := kJe.t.lst (kJ.t.lst e4 nq4) fun z => z
          have lvs : vs.length = rest.length := by have := congrArg List.length evs; rw [List.length_map, lo] at this; exact this.symm
          refine ⟨_, rfl, .inl ⟨rfl, _, SqL.of eA2⟩, _, rfl, q4, _, 0, _, rfl, rfl, SqL.of e4J2, atI_nat (j := 0) rfl, sz 1 (by decide), fun a na => ?_⟩
          have ka : Kp No J2 (upd J2 a (.lst [.str wd])) := Kp.new na
          have ea : upd J2 a (.lst [.str wd]) a = some (.lst [.str wd]) := upd_same
          generalize upd J2 a (.lst [.str wd]) = J3 at ka ea ⊢
          have eD3 := ka.t.lst eD2 fun z => z
          have pl3 : Paired (fun l o => J3 l = some (.lst (optL o))) ls (vs.map some) := pl2.mono fun _ _ z => ka.t.lst z fun q => q
          refine ⟨_, rfl, D, rfl, ⟨_, SqL.of eD3⟩, fun B9 nB => ?_⟩
          have nDB : D ≠ B9 := fun z => by rw [z, nB] at eD3; cases eD3
          have naB : a ≠ B9 := fun z => by rw [z, nB] at ea; cases ea
          have lls : ls.length = vs.length := by have := pl3.length; rw [List.length_map] at this; exact this
          refine lc_list (K := K) (a := D) (xs := ls.map V.ref) (fun i M => Kp (fun b => b = B9) J3 M ∧ M B9 = some (.lst (vs.take i))) ⟨Kp.new nB, upd_same⟩ (fun i M _ ⟨kM, _⟩ => SqL.of (kM.t.lst eD3 nDB)) ?_ ?_
          · rintro i y M hy ⟨kM, eM⟩
            rw [List.getElem?_map] at hy
            obtain ⟨l, hl2, rfl⟩ : ∃ l, ls[i]? = some l ∧ V.ref l = y := by
              cases e : ls[i]? with
              | none => rw [e] at hy; cases hy
              | some m => rw [e] at hy; exact ⟨m, rfl, Option.some.inj hy⟩
            obtain ⟨o, ho, elo⟩ := paired_at pl3 hl2
            rw [List.getElem?_map] at ho
            obtain ⟨v, hv, rfl⟩ : ∃ v, vs[i]? = some v ∧ some v = o := by
              cases e : vs[i]? with
              | none => rw [e] at ho; cases ho
              | some v => rw [e] at ho; exact ⟨v, rfl, Option.some.inj ho⟩
            have elM := kM.t.lst elo fun z => by rw [show l = B9 from z, nB] at elo; cases elo
            refine ⟨rfl, _, rfl, l, _, 0, v, rfl, rfl, SqL.of elM, atI_nat (j := 0) rfl, _, eM, szL (by rw [List.length_take]; omega), kM.trans (show Kp (fun b => b = B9) M _ from Kp.updL eM rfl) fun b z => .inl z, ?_⟩
            rw [upd_same, take_snoc hv]
          · rintro M ⟨kM, eM⟩
            rw [List.length_map, lls, List.take_length] at eM
            have kM2 : Kp No J3 M := kp_fresh kM fun b z => by rw [show b = B9 from z]; exact nB
            refine ⟨a, B9, _, _, rfl, rfl, kM2.t.lst ea (fun z => z), eM, by rw [sizeLine_eq, List.length_singleton]; omega, fun c nc => ?_⟩
            have kc : Kp No M (upd M c (.lst ([.str wd] ++ vs))) := Kp.new nc
            have ec : upd M c (.lst ([.str wd] ++ vs)) c = some (.lst ([.str wd] ++ vs)) := upd_same
            generalize upd M c (.lst ([.str wd] ++ vs)) = M2 at kc ec ⊢
            refine ⟨c, _, rfl, .inl ⟨SqL.of ec, fun t nt => ?_⟩⟩
            have kt : Kp No M2 (upd M2 t (.tup ([.str wd] ++ vs))) := Kp.new nt
            have et : upd M2 t (.tup ([.str wd] ++ vs)) t = some (.tup ([.str wd] ++ vs)) := upd_same
            generalize upd M2 t (.tup ([.str wd] ++ vs)) = M3 at kt et ⊢
            have kGM : Kp No G M3 := (((kGa.trans ka fun _ z => False.elim z).trans kM2 fun _ z => False.elim z).trans kc fun _ z => False.elim z).trans kt fun _ z => False.elim z
            have eA3 := kGM.t.lst eA fun z => z
            have kU : Kp (fun b => b = dl) M3 (upd M3 dl (.lst (acc ++ [.ref t]))) := Kp.updL eA3 rfl
            have la : acc.length ≤ 60000 := by have := pA.length; have h2 := pd.length; rw [List.length_take] at h2; omega
            refine ⟨dl, acc, _, rfl, rfl, eA3, Nat.lt_of_le_of_lt la (by decide), ⟨_, _, _, _, _, _, rfl⟩, (kG.trans kGM fun _ z => False.elim z).trans kU fun b z => .inl z, (upd_ne nq3l).trans (kGM.t.lst eq3 fun z => z), _, ds ++ [d], upd_same, ?_, ?_⟩
            · rw [take_snoc hm]
              exact pd.snoc (dR.trans hd)
            · exact (pA.mono fun _ _ z => (z.kt kGM.t).kt kU.t).snoc ⟨t, rfl, (kU.t.tup et).trans (by rw [hvs]; rfl)⟩
      · rintro σ G ⟨⟨o5, o6, o7, o8, o9, o10, rfl⟩, kG, eq3, acc, ds, eA, pd, pA⟩
        rw [List.length_map, List.take_length] at pd
        have e2L : G q2 = some (.lst ([w0, w1].map V.str)) := kG.t.lst e2F fun z => by rw [show q2 = dl from z, ndl] at e2F; cases e2F
        obtain ⟨ew0, lt0, _⟩ := numR_some e0
        obtain ⟨ew1, lt1, _⟩ := numR_some ex1
        have la : acc.length ≤ 60000 := by rw [pA.length, ← pd.length]; omega
        refine ⟨_, rfl, q2, _, 0, _, rfl, rfl, SqL.of e2L, atI_nat (j := 0) rfl, w0, (hN : Nat), rfl, by rw [ew0]; exact num_back lt0, ?_, _, rfl, q2, _, 1, _, rfl, rfl, SqL.of e2L, atI_nat (j := 1) rfl, w1, (xN : Nat), rfl, by rw [ew1]; exact num_back lt1, ?_, ?_⟩
        · rw [len_tl]; omega
        · rw [len_tl]; omega
        · refine ⟨_, rfl, dl, acc, rfl, .inl ⟨SqL.of eA, fun t nt => ⟨sz 3 (by decide), fun u nu => ?_⟩⟩⟩
          have k4 : Kp No G (upd (upd G t (.tup acc)) u (.tup [.int hN, .int xN, .ref t])) := (Kp.new nt).andN nu
          refine kS ⟨hN, xN, ds⟩ (by rw [deedsR_of pd]; rfl) _ u ((back kG).trans k4 fun _ z => False.elim z) ⟨u, .ref t, rfl, upd_same, t, acc, rfl, ?_, pA.mono fun _ _ z => z.kt k4.t, by show ds.length ≤ 10000000; rw [← pd.length]; omega⟩
          rw [upd_ne (upd_none nu).1.symm, upd_same]
end
end S02

set_option Elab.async false
set_option linter.all false
set_option maxRecDepth 100000
set_option maxHeartbeats 4000000
/-! ### faults -/
namespace S02
open PySem PySem.Spec PyProof.Rows L2 K5 SupX GenX TL
section
variable {P : Program} {w : World} {K : PySem.W.Frag} {mg : Str → Option Value} {base : Heap} {A : Ad} {B fR fI pR pL : Addr}
abbrev Nscfault : List Str := ["_law_deal_here", "_law_place", "_law_deed_here", "_law_most", "_law_far", "_law_k"]
theorem scfault : FnScope Nscfault ["_law_deal_here"] (defScope s_fault) := ⟨rfl, rfl, rfl, by decide +kernel, rfl, by decide +kernel, by decide +kernel⟩
def mostL : Dd → List Int
  | .put _ _ _ => [31, 999, 1000]
  | .drop _ => [31]
  | .add _ _ => [31, 999]
  | .iff _ _ => [31, 999]
def absI (x : Int) : Int := if x < 0 then -x else x
def farB (d : Dd) (k : Nat) : Bool := match d.parts[k]? with
  | some (.int x) => decide ((mostL d).getD k 0 < absI x)
  | _ => false
def farL (d : Dd) : List Nat := (List.range (mostL d).length).filter (farB d)
/-- what a deed that was read has -/
def DdN : Dd → Prop
  | .put k w l => 0 ≤ k ∧ k < 10000 ∧ 0 ≤ w ∧ w < 10000 ∧ 0 ≤ l ∧ l < 10000
  | .drop k => 0 ≤ k ∧ k < 10000
  | .add k m => 0 ≤ k ∧ k < 10000 ∧ -10000 < m ∧ m < 10000
  | .iff k m => 0 ≤ k ∧ k < 10000 ∧ ∀ i, m = some i → 0 ≤ i ∧ i < 10000
theorem far_ok {d : Dd} (h : DdN d) : (farL d).isEmpty = d.ok := by
  have key : ∀ (l : List Nat), (l.isEmpty = true ↔ l = []) := fun l => List.isEmpty_iff
  rw [Bool.eq_iff_iff, key]
  unfold farL
  rw [List.filter_eq_nil_iff]
  cases d with
  | put k w l =>
    obtain ⟨a1, a2, a3, a4, a5, a6⟩ := h
    constructor
    · intro q
      have q0 := q 0 (List.mem_range.mpr (by simp [mostL]))
      have q1 := q 1 (List.mem_range.mpr (by simp [mostL]))
      have q2 := q 2 (List.mem_range.mpr (by simp [mostL]))
      simp [farB, mostL, Dd.parts, absI] at q0 q1 q2
      simp [Dd.ok, inB]
      refine ⟨⟨?_, ?_⟩, ⟨?_, ?_⟩, ?_, ?_⟩ <;> (first | omega | (split at q0 <;> split at q1 <;> split at q2 <;> omega))
    · intro q
      simp [Dd.ok, inB] at q
      intro i hi
      have hi : i < 3 := List.mem_range.mp hi
      match i, hi with
      | 0, _ => simp [farB, mostL, Dd.parts, absI]; split <;> omega
      | 1, _ => simp [farB, mostL, Dd.parts, absI]; split <;> omega
      | 2, _ => simp [farB, mostL, Dd.parts, absI]; split <;> omega
  | drop k =>
    obtain ⟨a1, a2⟩ := h
    constructor
    · intro q
      have q0 := q 0 (List.mem_range.mpr (by simp [mostL]))
      simp [farB, mostL, Dd.parts, absI] at q0
      simp [Dd.ok, inB]
      refine ⟨?_, ?_⟩ <;> (first | omega | (split at q0 <;> omega))
    · intro q
      simp [Dd.ok, inB] at q
      intro i hi
      have hi : i < 1 := List.mem_range.mp hi
      match i, hi with
      | 0, _ => simp [farB, mostL, Dd.parts, absI]; split <;> omega
  | add k m =>
    obtain ⟨a1, a2, a3, a4⟩ := h
    constructor
    · intro q
      have q0 := q 0 (List.mem_range.mpr (by simp [mostL]))
      have q1 := q 1 (List.mem_range.mpr (by simp [mostL]))
      simp [farB, mostL, Dd.parts, absI] at q0 q1
      simp [Dd.ok, inB]
      refine ⟨⟨?_, ?_⟩, ?_, ?_⟩ <;> (first | omega | (split at q0 <;> split at q1 <;> omega))
    · intro q
      simp [Dd.ok, inB] at q
      intro i hi
      have hi : i < 2 := List.mem_range.mp hi
      match i, hi with
      | 0, _ => simp [farB, mostL, Dd.parts, absI]; split <;> omega
      | 1, _ => simp [farB, mostL, Dd.parts, absI]; split <;> omega
  | iff k m =>
    cases m with
    | none =>
      obtain ⟨a1, a2, _⟩ := h
      constructor
      · intro q
        have q0 := q 0 (List.mem_range.mpr (by simp [mostL]))
        simp [farB, mostL, Dd.parts, absI] at q0
        simp [Dd.ok, inB]
        refine ⟨?_, ?_⟩ <;> (first | omega | (split at q0 <;> omega))
      · intro q
        simp [Dd.ok, inB] at q
        intro i hi
        have hi : i < 2 := List.mem_range.mp hi
        match i, hi with
        | 0, _ => simp [farB, mostL, Dd.parts, absI]; split <;> omega
        | 1, _ => simp [farB, mostL, Dd.parts, absI, oV]
    | some m =>
      obtain ⟨a1, a2, a3⟩ := h
      obtain ⟨a3, a4⟩ := a3 m rfl
      constructor
      · intro q
        have q0 := q 0 (List.mem_range.mpr (by simp [mostL]))
        have q1 := q 1 (List.mem_range.mpr (by simp [mostL]))
        simp [farB, mostL, Dd.parts, absI, oV] at q0 q1
        simp [Dd.ok, inB]
        refine ⟨⟨?_, ?_⟩, ?_, ?_⟩ <;> (first | omega | (split at q0 <;> split at q1 <;> omega))
      · intro q
        simp [Dd.ok, inB] at q
        intro i hi
        have hi : i < 2 := List.mem_range.mp hi
        match i, hi with
        | 0, _ => simp [farB, mostL, Dd.parts, absI]; split <;> omega
        | 1, _ => simp [farB, mostL, Dd.parts, absI, oV]; split <;> omega
def GdN (g : Gd) : Prop := 0 ≤ g.hd ∧ g.ds ≠ [] ∧ ∀ d ∈ g.ds, DdN d
def FltAt (H : Hp) (v : V) (g : Gd) : Prop := match badG g with
  | none => v = .non
  | some .hand => TupAt H v "BadHand" 0
  | some (.deal p) => TupAt H v "BadDeal" (p : Nat)
  | some _ => True
def spFault : Sp := fun vs H Q _ => ∃ (v : V) (g : Gd), vs = [v] ∧ GdAt H v g ∧ GdN g ∧ ∀ G u, Kp No H G → FltAt G u g → Q u G
theorem ok_fault (T : Txt K mg A) : ∃ fd, FnOk P w K mg base CX0 1 (A.d 55) fd ["_law_deal_here"] spFault ∧ Binds K fd ["_law_deal_here"] [] := by
  obtain ⟨fd, F⟩ := T.fault.fn
  refine ⟨fd, F.ok scfault (fun vs H Q E h => ?_) (fun cdv Ar outer s0 H vs Q E hr h => ?_), F.binds fun _ _ _ _ _ _ us hl => match us, hl with | [_], _ => rfl⟩
  · obtain ⟨v, g, rfl, _⟩ := h
    rfl
  · obtain ⟨v, g, rfl, hv, hg, k⟩ := h
    have hu := hu_of hr
    refine ⟨_, (pss_cons (ps_if (pt_cmpR op_gt (pe_ix ix_tup (pv 0) pe_int (fun _ _ => rfl)) pe_int (nomark _))
        (pss_one (ps_ret (pe_tup (pa_cons pe_str (pa_cons pe_int pa_nil)))))
        pss_nil)
      (pss_cons (ps_for PassesOwn.never rfl (pi_range1 (by rfl) T.range (pa_cons (pe_callB call_len_seq (by rfl) T.len PySem.boot_len (pa_cons (pe_ix ix_tup (pv 0) pe_int (fun _ _ => rfl)) pa_nil)) pa_nil)) (pg_name (i := 1) scfault.nd rfl (Or.inl rfl))
        (pss_cons (ps_set (i := 2) scfault.nd rfl (Or.inr rfl) (pe_ix ix_tup (pe_ix ix_tup (pv 0) pe_int (fun _ _ => rfl)) (pv 1) (fun _ _ => rfl)))
        (pss_cons (ps_set (i := 3) scfault.nd rfl (Or.inr rfl) (pe_dget hu (pe_disp (pps_cons pe_str (pe_tup (pa_cons pe_int (pa_cons pe_int (pa_cons pe_int pa_nil)))) (pps_cons pe_str (pe_tup (pa_cons pe_int pa_nil)) (pps_cons pe_str (pe_tup (pa_cons pe_int (pa_cons pe_int pa_nil))) (pps_cons pe_str (pe_tup (pa_cons pe_int (pa_cons pe_int pa_nil))) pps_nil)))) (by rfl) (by rfl) (fun z => by cases z) (by decide)) (pe_ix ix_tup (pv 2) pe_int (fun _ _ => rfl)) (fun _ _ => rfl)))
        (pss_cons (ps_setLc (i := 4) (own := [("_law_k", 5)]) (g := (gName 5)) (te := tVar 5) (tt := tAnd (tB (tNotN (tOp (rIxT K) (tVar 2) (tOp (rI0 fun i j => V.int (i + j)) (tVar 5) (tC (.int 1)))))) (tTest (tOp (rI0 fun i j => V.bl (decide (j < i))) (tCB (fun xs H Q => ∃ i, xs = [.int i] ∧ Q (.int (if i < 0 then -i else i)) H) (tCons (tOp (rIxT K) (tVar 2) (tOp (rI0 fun i j => V.int (i + j)) (tVar 5) (tC (.int 1)))) tNil)) (tOp (rIxT K) (tVar 3) (tVar 5))))) (by rfl) scfault.nd rfl rfl (sw_true rfl rfl rfl (by decide +kernel)) (pi_range1 (by rfl) T.range (pa_cons (pe_callB call_len_seq (by rfl) T.len PySem.boot_len (pa_cons (pv 3) pa_nil)) pa_nil)) (blkOk_by (N := Nscfault) (sc := defScope s_fault) (by decide +kernel)) (fun _ _ _ _ _ => pg_name (i := 5) scfault.nd rfl (Or.inl rfl)) (fun _ _ _ _ _ => by exact (pts_one (PW.pt (pw_and (pt_cmp (pc_notN (pe_ix ix_tup (pv 2) (pe_op op_add (pv 5) pe_int) (fun _ _ => rfl)))) (pw_and1 (pt_cmpR op_gt (pe_callB call_abs (by rfl) T.abs (by decide +kernel) (pa_cons (pe_ix ix_tup (pv 2) (pe_op op_add (pv 5) pe_int) (fun _ _ => rfl)) pa_nil)) (pe_ix ix_tup (pv 3) (pv 5) (fun _ _ => rfl)) (nomark _))))))) (fun _ _ _ _ _ => by exact (pv 5)))
        (pss_one (ps_if (PW.pt (pw_or (pt_cmpR op_gt (pv 1) pe_int (nomark _)) (pw_or1 (pt_cmpR (op_neD hr.units) (pv 4) (pe_lst pa_nil) (nomark _)))))
          (pss_one (ps_ret (pe_tup (pa_cons pe_str (pa_cons (pv 1) pa_nil)))))
          pss_nil))))))
      (pss_one (ps_ret pe_non)))), ?_⟩
    obtain ⟨u0, dv, rfl, eU, a, xs, rfl, eX, pX, lX⟩ := hv
    obtain ⟨g0, gne, gall⟩ := hg
    have lx := pX.length
    refine ⟨_, rfl, u0, _, 0, _, rfl, rfl, SqT.of eU, atI_nat (j := 0) rfl, _, _, rfl, rfl, _, rfl, ?_⟩
    by_cases hh : g.hd ≤ 3
    rotate_left
    · rw [show decide ((3 : Int) < g.hd) = true from decide_eq_true (by omega)]
      refine iteT ⟨sz 2 (by decide), fun p np => k _ _ (Kp.new np) ?_⟩
      have : badG g = some .hand := if_neg (by unfold inB; simp; omega)
      unfold FltAt
      rw [this]
      exact ⟨p, rfl, upd_same⟩
    rw [show decide ((3 : Int) < g.hd) = false from decide_eq_false (by omega)]
    have hb : badG g = (dealBad g.ds).map Er.deal := if_pos (by unfold inB; simp; omega)
    have hb0 : dealBad g.ds = badFrom 0 g.ds := if_neg gne
    rw [hb0] at hb
    refine iteF ⟨_, rfl, u0, _, 2, _, rfl, rfl, SqT.of eU, atI_nat (j := 2) rfl, a, xs, rfl, .inr (SqT.of eX), _, rfl, by omega, by omega, ?_⟩
    refine for_range (lo := 0) (fun i σ G => (∃ o1 o2 o3 o4 o5, σ = [some (.ref u0), o1, o2, o3, o4, o5]) ∧ Kp No H G ∧ badFrom 0 g.ds = badFrom i (g.ds.drop i) ∧ i ≤ 4) ⟨⟨_, _, _, _, _, rfl⟩, Kp.refl _ _, by rw [List.drop_zero], by omega⟩ ?_ ?_
    · rintro i σ G hi ⟨⟨o1, o2, o3, o4, o5, rfl⟩, kG, hbd, h4⟩
      have hi : i < xs.length := by simpa using hi
      have hy : xs[i]? = some xs[i] := List.getElem?_eq_getElem hi
      obtain ⟨d, hd, ad, ead, eD⟩ := paired_at pX hy
      have hdN := gall d (List.mem_of_getElem? hd)
      have dr : g.ds.drop i = d :: g.ds.drop (i + 1) := by
        obtain ⟨h1, h2⟩ := List.getElem?_eq_some_iff.mp hd
        rw [List.drop_eq_getElem_cons h1, h2]
      rw [dr] at hbd
      refine ⟨_, rfl, u0, _, 2, _, rfl, rfl, SqT.of (kG.t.tup eU), atI_nat (j := 2) rfl, _, rfl, a, _, (0 + (i : Int)), .ref ad, rfl, rfl, SqT.of (kG.t.tup eX), ?_, ?_⟩
      · rw [show (0 + (i : Int)) = ((i : Nat) : Int) by omega]
        exact atI_nat (by rw [hy, ead])
      have eDG := kG.t.tup eD
      refine fun dk ndk => ?_
      have g0' : Kp (fun b => b = dk) G (upd G dk (.dK [])) := Kp.new ndk
      have d0 : upd G dk (.dK []) dk = some (.dK []) := upd_same
      generalize upd G dk (.dK []) = F0 at g0' d0 ⊢
      refine ⟨sz 3 (by decide), fun p1 np1 => ?_⟩
      have g1 := g0'.andN (o' := .tup [.int 31, .int 999, .int 1000]) np1
      have d1 : upd F0 p1 (.tup [.int 31, .int 999, .int 1000]) dk = some (.dK []) := (upd_ne (ne_of_none d0 np1)).trans d0
      have c11 : upd F0 p1 (.tup [.int 31, .int 999, .int 1000]) p1 = some (.tup [.int 31, .int 999, .int 1000]) := upd_same
      generalize upd F0 p1 (.tup [.int 31, .int 999, .int 1000]) = F1 at g1 d1 c11 ⊢
      refine ⟨sz 1 (by decide), fun p2 np2 => ?_⟩
      have g2 := g1.andN (o' := .tup [.int 31]) np2
      have d2 : upd F1 p2 (.tup [.int 31]) dk = some (.dK []) := (upd_ne (ne_of_none d1 np2)).trans d1
      have c21 : upd F1 p2 (.tup [.int 31]) p1 = some (.tup [.int 31, .int 999, .int 1000]) := (upd_ne (ne_of_none c11 np2)).trans c11
      have c22 : upd F1 p2 (.tup [.int 31]) p2 = some (.tup [.int 31]) := upd_same
      generalize upd F1 p2 (.tup [.int 31]) = F2 at g2 d2 c21 c22 ⊢
      refine ⟨sz 2 (by decide), fun p3 np3 => ?_⟩
      have g3 := g2.andN (o' := .tup [.int 31, .int 999]) np3
      have d3 : upd F2 p3 (.tup [.int 31, .int 999]) dk = some (.dK []) := (upd_ne (ne_of_none d2 np3)).trans d2
      have c31 : upd F2 p3 (.tup [.int 31, .int 999]) p1 = some (.tup [.int 31, .int 999, .int 1000]) := (upd_ne (ne_of_none c21 np3)).trans c21
      have c32 : upd F2 p3 (.tup [.int 31, .int 999]) p2 = some (.tup [.int 31]) := (upd_ne (ne_of_none c22 np3)).trans c22
      have c33 : upd F2 p3 (.tup [.int 31, .int 999]) p3 = some (.tup [.int 31, .int 999]) := upd_same
      generalize upd F2 p3 (.tup [.int 31, .int 999]) = F3 at g3 d3 c31 c32 c33 ⊢
      refine ⟨sz 2 (by decide), fun p4 np4 => ?_⟩
      have g4 := g3.andN (o' := .tup [.int 31, .int 999]) np4
      have d4 : upd F3 p4 (.tup [.int 31, .int 999]) dk = some (.dK []) := (upd_ne (ne_of_none d3 np4)).trans d3
      have c41 : upd F3 p4 (.tup [.int 31, .int 999]) p1 = some (.tup [.int 31, .int 999, .int 1000]) := (upd_ne (ne_of_none c31 np4)).trans c31
      have c42 : upd F3 p4 (.tup [.int 31, .int 999]) p2 = some (.tup [.int 31]) := (upd_ne (ne_of_none c32 np4)).trans c32
      have c43 : upd F3 p4 (.tup [.int 31, .int 999]) p3 = some (.tup [.int 31, .int 999]) := (upd_ne (ne_of_none c33 np4)).trans c33
      have c44 : upd F3 p4 (.tup [.int 31, .int 999]) p4 = some (.tup [.int 31, .int 999]) := upd_same
      generalize upd F3 p4 (.tup [.int 31, .int 999]) = F4 at g4 d4 c41 c42 c43 c44 ⊢
      refine ⟨d4, [(.inr "put", .ref p1), (.inr "drop", .ref p2), (.inr "add", .ref p3), (.inr "if", .ref p4)], rfl, by show 4 ≤ 15; decide, ?_⟩
      have gk := g4.andD (o' := .dK [(.inr "put", .ref p1), (.inr "drop", .ref p2), (.inr "add", .ref p3), (.inr "if", .ref p4)]) d4 rfl
      have ek : upd F4 dk (.dK [(.inr "put", .ref p1), (.inr "drop", .ref p2), (.inr "add", .ref p3), (.inr "if", .ref p4)]) dk = some (.dK [(.inr "put", .ref p1), (.inr "drop", .ref p2), (.inr "add", .ref p3), (.inr "if", .ref p4)]) := upd_same
      have f1 := (upd_ne (o := .dK [(.inr "put", .ref p1), (.inr "drop", .ref p2), (.inr "add", .ref p3), (.inr "if", .ref p4)]) (ne_of c41 d4 (fun z => by cases z))).trans c41
      have f2 := (upd_ne (o := .dK [(.inr "put", .ref p1), (.inr "drop", .ref p2), (.inr "add", .ref p3), (.inr "if", .ref p4)]) (ne_of c42 d4 (fun z => by cases z))).trans c42
      have f3 := (upd_ne (o := .dK [(.inr "put", .ref p1), (.inr "drop", .ref p2), (.inr "add", .ref p3), (.inr "if", .ref p4)]) (ne_of c43 d4 (fun z => by cases z))).trans c43
      have f4 := (upd_ne (o := .dK [(.inr "put", .ref p1), (.inr "drop", .ref p2), (.inr "add", .ref p3), (.inr "if", .ref p4)]) (ne_of c44 d4 (fun z => by cases z))).trans c44
      have kF : Kp No G (upd F4 dk (.dK [(.inr "put", .ref p1), (.inr "drop", .ref p2), (.inr "add", .ref p3), (.inr "if", .ref p4)])) := kp_fresh gk fun b z => by rw [show b = dk from z]; exact ndk
      show tOp _ _ _ _ (upd F4 dk (.dK [(.inr "put", .ref p1), (.inr "drop", .ref p2), (.inr "add", .ref p3), (.inr "if", .ref p4)])) _
      generalize upd F4 dk (.dK [(.inr "put", .ref p1), (.inr "drop", .ref p2), (.inr "add", .ref p3), (.inr "if", .ref p4)]) = F5 at ek f1 f2 f3 f4 kF ⊢
      obtain ⟨pm, hpm, em⟩ : ∃ pm, valV [((.inr "put" : Key), V.ref p1), (.inr "drop", .ref p2), (.inr "add", .ref p3), (.inr "if", .ref p4)] (.inr d.word : Key) = some (.ref pm) ∧ F5 pm = some (.tup ((mostL d).map V.int)) := by
        cases d with
        | put _ _ _ => exact ⟨p1, rfl, f1⟩
        | drop _ => exact ⟨p2, rfl, f2⟩
        | add _ _ => exact ⟨p3, rfl, f3⟩
        | iff _ _ => exact ⟨p4, rfl, f4⟩
      have eDF := kF.t.tup eDG
      have lm : (mostL d).length ≤ 3 := by cases d <;> simp [mostL]
      refine ⟨_, rfl, ad, _, 0, _, rfl, rfl, SqT.of eDF, atI_nat (j := 0) rfl, dk, .ref pm, rfl, by have := DGet.k (k := (.inr d.word : Key)) ek; rw [hpm] at this; exact this, ?_⟩
      refine ⟨_, rfl, pm, _, rfl, .inr (SqT.of em), _, rfl, by rw [List.length_map]; omega, by rw [List.length_map]; omega, fun D nD => ?_⟩
      rw [show ((((mostL d).map V.int).length : Nat) : Int).toNat = (mostL d).length by simp]
      refine lc_range (fun i J => Kp (fun b => b = D) F5 J ∧ J D = some (.lst ((((List.range i).filter (farB d)).map fun (n : Nat) => (n : Int)).map V.int))) ⟨Kp.new nD, upd_same⟩ ?_ ?_
      · rintro n J hn ⟨kJ, eJ⟩
        have eDJ := kJ.t.tup eDF
        have emJ := kJ.t.tup em
        obtain ⟨v, hv⟩ : ∃ v, d.parts[n]? = some v := by
          have : n < d.parts.length := by cases d <;> simpa [mostL, Dd.parts] using hn
          exact ⟨_, List.getElem?_eq_getElem this⟩
        obtain ⟨q, hq⟩ : ∃ q, (mostL d)[n]? = some q := ⟨_, List.getElem?_eq_getElem hn⟩
        have at1 : atI d.vs (0 + (n : Int) + 1) = some v := by
          rw [show (0 + (n : Int) + 1) = ((n + 1 : Nat) : Int) by omega]
          exact atI_nat (by show (V.str d.word :: d.parts)[n + 1]? = some v; simpa using hv)
        have at2 : atI ((mostL d).map V.int) (0 + (n : Int)) = some (.int q) := by
          rw [show (0 + (n : Int)) = ((n : Nat) : Int) by omega]
          exact atI_nat (by rw [List.getElem?_map, hq]; rfl)
        have efar : (List.range (n + 1)).filter (farB d) = (List.range n).filter (farB d) ++ (if farB d n = true then [n] else []) := by
          rw [List.range_succ, List.filter_append, List.filter_cons, List.filter_nil]
        refine ⟨rfl, ?_⟩
        have hk : (∃ z, v = .int z) ∨ v = .non := by
          have hm := List.mem_of_getElem? hv
          cases d with
          | put a b c =>
            simp only [Dd.parts, List.mem_cons, List.not_mem_nil, or_false] at hm
            rcases hm with h | h | h <;> exact .inl ⟨_, h⟩
          | drop a =>
            simp only [Dd.parts, List.mem_cons, List.not_mem_nil, or_false] at hm
            exact .inl ⟨_, hm⟩
          | add a b =>
            simp only [Dd.parts, List.mem_cons, List.not_mem_nil, or_false] at hm
            rcases hm with h | h <;> exact .inl ⟨_, h⟩
          | iff a b =>
            simp only [Dd.parts, List.mem_cons, List.not_mem_nil, or_false] at hm
            rcases hm with h | h
            · exact .inl ⟨_, h⟩
            · cases b with
              | none => exact .inr h
              | some b => exact .inl ⟨_, h⟩
        have no : farB d n = false → Kp (fun b => b = D) F5 J ∧ J D = some (.lst ((((List.range (n + 1)).filter (farB d)).map fun (n : Nat) => (n : Int)).map V.int)) := fun h => by
          rw [h] at efar
          refine ⟨kJ, ?_⟩
          rw [efar]
          simpa using eJ
        refine ⟨_, rfl, _, rfl, _, _, rfl, rfl, ad, _, 0 + (n : Int) + 1, v, rfl, rfl, SqT.of eDJ, at1, _, rfl, ?_⟩
        rcases hk with ⟨z, rfl⟩ | rfl
        rotate_left
        · exact iteF (iteF (no (by unfold farB; rw [hv])))
        have eF : farB d n = decide (q < absI z) := by
          unfold farB
          rw [hv, List.getD_eq_getElem?_getD, hq]
          rfl
        refine iteT ⟨_, rfl, _, rfl, _, _, rfl, rfl, ad, _, 0 + (n : Int) + 1, .int z, rfl, rfl, SqT.of eDJ, at1, z, rfl, _, rfl, _, rfl, pm, _, 0 + (n : Int), .int q, rfl, rfl, SqT.of emJ, at2, _, _, rfl, rfl, _, rfl, ?_⟩
        show if decide (q < absI z) = true then _ else _
        cases hb9 : decide (q < absI z) with
        | false => exact iteF (no (eF.trans hb9))
        | true =>
          rw [eF.trans hb9] at efar
          refine iteT ⟨_, rfl, _, eJ, szL (by rw [List.length_map, List.length_map]; exact Nat.le_trans (List.length_filter_le _ _) (by rw [List.length_range]; omega)), kJ.trans (show Kp (fun b => b = D) J _ from Kp.updL eJ rfl) fun b z => .inl z, ?_⟩
          rw [upd_same, efar]
          simp
      · rintro J ⟨kJ, eJ⟩
        have kHJ : Kp No H J := (kG.trans kF fun _ z => False.elim z).trans (kp_fresh kJ fun b z => by rw [show b = D from z]; exact nD) fun _ z => False.elim z
        have dead : ∀ {G2 : Hp} {p : Addr}, badFrom i (d :: g.ds.drop (i + 1)) = some i → Kp No H G2 → G2 p = some (.tup [.str "BadDeal", .int (0 + (i : Int))]) → Q (.ref p) G2 := fun hbad kG2 ep => by
          refine k _ _ kG2 ?_
          unfold FltAt
          rw [hb, hbd, hbad]
          exact ⟨_, rfl, by rw [ep, Int.zero_add]⟩
        refine ⟨_, rfl, _, _, rfl, rfl, _, rfl, ?_⟩
        by_cases e4 : i = 4
        · rw [show decide ((3 : Int) < 0 + (i : Int)) = true from decide_eq_true (by omega)]
          refine iteT (iteT ⟨_, rfl, sz 2 (by decide), fun p np => dead (if_pos (.inl e4)) (kHJ.trans (Kp.new np) fun _ z => False.elim z) upd_same⟩)
        rw [show decide ((3 : Int) < 0 + (i : Int)) = false from decide_eq_false (by omega)]
        refine iteF ⟨_, rfl, sz 0 (by decide), fun e ne => ?_⟩
        have kHe : Kp No H (upd J e (.lst [])) := kHJ.trans (Kp.new ne) fun _ z => False.elim z
        have eJ2 : upd J e (.lst []) D = some (.lst (((farL d).map fun (n : Nat) => (n : Int)).map V.int)) := (upd_ne (ne_of_none eJ ne)).trans eJ
        refine ⟨_, _, .lst (SqL.of eJ2) (dp_ints _), .lst (SqL.of upd_same) .nil, shaped_ints _, shaped_nil, _, rfl, ?_⟩
        rw [eqv_nil, show (List.map PyData.int ((farL d).map fun (n : Nat) => (n : Int))).isEmpty = (farL d).isEmpty by cases farL d <;> rfl, far_ok hdN]
        cases hk : d.ok with
        | false => exact iteT ⟨_, rfl, sz 2 (by decide), fun p np => dead (if_pos (.inr hk)) (kHe.trans (Kp.new np) fun _ z => False.elim z) upd_same⟩
        | true =>
          refine iteF ⟨⟨_, _, _, _, _, rfl⟩, kHe, ?_, by omega⟩
          rw [hbd]
          show badFrom i (d :: g.ds.drop (i + 1)) = _
          rw [badFrom, if_neg (by rw [hk]; simp [e4])]
    · rintro σ G ⟨_, kG, hbd, h4⟩
      refine k _ _ kG ?_
      unfold FltAt
      have : badFrom 0 g.ds = none := by
        rw [hbd, List.drop_of_length_le (by simp; omega)]
        rfl
      rw [hb, this]
      rfl
end
end S02

set_option Elab.async false
set_option linter.all false
set_option maxRecDepth 100000
set_option maxHeartbeats 4000000
/-! ### what is due of a text -/
namespace S02
open PySem PySem.Spec PyProof.Rows L2 K5 SupX GenX TL
theorem numR_lt {x : Str} {n : Nat} (h : numR x = some n) : n < 10000 := (numR_some h).2.1
theorem moreR_lt {x : Str} {m : Int} (h : moreR x = some m) : -10000 < m ∧ m < 10000 := by
  unfold moreR at h
  split at h
  · split at h
    · rename_i n hn
      have := numR_lt hn
      split at h
      · cases h; omega
      · cases h
    · cases h
  · obtain ⟨n, hn, e⟩ := Option.map_eq_some_iff.mp h
    have := numR_lt hn
    cases e
    show -10000 < (n : Int) ∧ (n : Int) < 10000
    omega
theorem worthR_lt {x : Str} {m : Option Int} (h : worthR x = some m) : ∀ i, m = some i → 0 ≤ i ∧ i < 10000 := by
  unfold worthR at h
  split at h
  · cases h; intro i e; cases e
  · cases hn : numR x with
    | none => rw [hn] at h; cases h
    | some n =>
      have := numR_lt hn
      rw [hn] at h
      cases h
      intro i e
      cases e
      omega
theorem deedW_N {ws : List Str} {d : Dd} (h : deedW ws = some d) : DdN d := by
  unfold deedW at h
  split at h
  · split at h
    · obtain ⟨n, hn, e⟩ := Option.map_eq_some_iff.mp h
      have := numR_lt hn
      cases e
      exact ⟨by omega, by omega⟩
    · cases h
  · split at h
    · split at h
      · rename_i k m h1 h2
        cases h
        have a := numR_lt h1
        have b := moreR_lt h2
        exact ⟨by omega, by omega, by omega, by omega⟩
      · cases h
    · split at h
      · split at h
        · rename_i k m h1 h2
          cases h
          have a := numR_lt h1
          exact ⟨by omega, by omega, worthR_lt h2⟩
        · cases h
      · cases h
  · split at h
    · split at h
      · rename_i k m l h1 h2 h3
        cases h
        have a := numR_lt h1
        have b := numR_lt h2
        have c := numR_lt h3
        exact ⟨by omega, by omega, by omega, by omega, by omega, by omega⟩
      · cases h
    · cases h
  · cases h
theorem rowR_N {x : Str} {g : Gd} (h : rowR x = some g) : GdN g := by
  unfold rowR at h
  rcases e : Txt.partition x ": " with ⟨hd, co, ta⟩
  rw [e] at h
  have h : (if co = "" then none else bothR (headR (Txt.split hd " ")) (deedsR (Txt.split ta "; "))) = some g := h
  split at h
  · cases h
  · cases h1 : headR (Txt.split hd " ") with
    | none => rw [h1] at h; cases h2 : deedsR (Txt.split ta "; ") <;> rw [h2] at h <;> cases h
    | some p =>
      cases h2 : deedsR (Txt.split ta "; ") with
      | none => rw [h1, h2] at h; cases h
      | some ds =>
        rw [h1, h2] at h
        obtain ⟨p1, p2⟩ := p
        cases h
        have pd := deedsR_all h2
        refine ⟨by show (0 : Int) ≤ (p1 : Nat); omega, fun z => ?_, fun d hd => ?_⟩
        · have z : ds = [] := z
          have := pd.length
          rw [z] at this
          exact sepD.some ta (List.length_eq_zero_iff.mp this)
        · obtain ⟨i, hi⟩ := List.mem_iff_getElem?.mp hd
          have li := (List.getElem?_eq_some_iff.mp hi).1
          have : i < (Txt.split ta "; ").length := by rw [pd.length]; exact li
          obtain ⟨d', hd', e'⟩ := paired_at pd (List.getElem?_eq_getElem this)
          have : d' = d := Option.some.inj (hd'.symm.trans hi)
          subst this
          exact deedW_N e'
/-- a row read: None, or a deal -/
def RvAt (H : Hp) (v : V) : Option Gd → Prop
  | none => v = .non
  | some g => GdAt H v g
theorem RvAt.kt {F : Addr → Prop} {H G : Hp} (k : Kt F H G) {v : V} : ∀ {o : Option Gd}, RvAt H v o → RvAt G v o
  | none, h => h
  | some _, h => GdAt.kt k h
section
variable {K : PySem.W.Frag} {H : Hp}
theorem dt_dd {v : V} {d : Dd} (h : DdAt H v d) : ∃ x, Dt K H 1 v x := by
  obtain ⟨a, rfl, e⟩ := h
  have dv : ∀ o : Option Int, ∃ x, Dt K H 0 (oV o) x := fun o => by
    cases o with
    | none => exact ⟨_, Dt.non 0⟩
    | some i => exact ⟨_, Dt.int 0 i⟩
  cases d with
  | put k w l => exact ⟨_, Dt.tup e ((Dt.str 0 "put" (by decide +kernel)).cons ((Dt.int 0 _).cons ((Dt.int 0 _).cons ((Dt.int 0 _).cons (DtA.nil 0)))))⟩
  | drop k => exact ⟨_, Dt.tup e ((Dt.str 0 "drop" (by decide +kernel)).cons ((Dt.int 0 _).cons (DtA.nil 0)))⟩
  | add k m => exact ⟨_, Dt.tup e ((Dt.str 0 "add" (by decide +kernel)).cons ((Dt.int 0 _).cons ((Dt.int 0 _).cons (DtA.nil 0))))⟩
  | iff k w =>
    obtain ⟨x, hx⟩ := dv w
    exact ⟨_, Dt.tup e ((Dt.str 0 "if" (by decide +kernel)).cons ((Dt.int 0 _).cons (hx.cons (DtA.nil 0))))⟩
theorem dt_rv {v : V} {o : Option Gd} (h : RvAt H v o) : ∃ x, Dt K H 3 v x ∧ PyData.eqv x .none = o.isNone := by
  cases o with
  | none => obtain rfl := h; exact ⟨_, Dt.non 3, by decide +kernel⟩
  | some g =>
    obtain ⟨u, dv, rfl, e, a, xs, rfl, ea, p, _⟩ := h
    obtain ⟨ds, hd⟩ := dt_all (K := K) (fun v a z => dt_dd z) p
    exact ⟨_, Dt.tup e ((Dt.int 2 _).cons ((Dt.int 2 _).cons ((Dt.tup ea hd).cons (DtA.nil 2)))), by simp [PyData.eqv]⟩
theorem dt_rvs : ∀ {vs : List V} {os : List (Option Gd)}, Paired (RvAt H) vs os → ∃ ds, DtA K H 3 vs ds ∧ ds.map (fun z => PyData.eqv z .none) = os.map Option.isNone
  | _, _, .nil => ⟨[], DtA.nil 3, rfl⟩
  | _, _, .cons h r => by
    obtain ⟨x, h1, h2⟩ := dt_rv h
    obtain ⟨ds, h3, h4⟩ := dt_rvs r
    exact ⟨x :: ds, h1.cons h3, by rw [List.map_cons, List.map_cons, h2, h4]⟩
end
theorem badGs_first : ∀ (gs : List Gd), badGs gs = (match gs.filter (fun g => (badG g).isSome) with | [] => none | g :: _ => badG g)
  | [] => rfl
  | g :: gs => by
    rw [List.filter_cons]
    unfold badGs
    cases h : badG g with
    | some r => simp [h]
    | none => simpa [h] using badGs_first gs
theorem fault_out {H : Hp} {v : V} {g : Gd} {gs : List Gd} {r : Er} (h : FltAt H v g) (e : badG g = some r) (e2 : badGs gs = badG g) : OutAt H v (outG gs) := by
  unfold outG
  rw [e2, e]
  rcases badGs_two (gs := gs) (r := r) (by rw [e2, e]) with rfl | ⟨p, rfl⟩
  · unfold FltAt at h; rw [e] at h; exact h
  · unfold FltAt at h; rw [e] at h; exact h
theorem flt_tup {H : Hp} {v : V} {g : Gd} {r : Er} (h : FltAt H v g) (e : badG g = some r) : ∃ wd n, TupAt H v wd n ∧ PyData.strOk wd = true := by
  rcases badGs_two (gs := [g]) (r := r) (by unfold badGs; rw [e]) with rfl | ⟨p, rfl⟩
  · unfold FltAt at h; rw [e] at h; exact ⟨_, _, h, by decide +kernel⟩
  · unfold FltAt at h; rw [e] at h; exact ⟨_, _, h, by decide +kernel⟩
theorem TupAt.kt {F : Addr → Prop} {H G : Hp} (k : Kt F H G) {v : V} {wd : Str} {n : Int} (h : TupAt H v wd n) : TupAt G v wd n := let ⟨p, e, q⟩ := h; ⟨p, e, k.tup q⟩
theorem FltAt.kt {F : Addr → Prop} {H G : Hp} (k : Kt F H G) {v : V} {g : Gd} (h : FltAt H v g) : FltAt G v g := by
  unfold FltAt at h ⊢
  split at h
  · exact h
  · exact h.kt k
  · exact h.kt k
  · trivial
theorem dt_flts {K : PySem.W.Frag} {H : Hp} : ∀ {vs : List V} {gs : List Gd}, Paired (fun v g => (badG g).isSome = true ∧ FltAt H v g) vs gs → ∃ ds, DtA K H 1 vs ds ∧ ds.length = gs.length
  | _, _, .nil => ⟨[], DtA.nil 1, rfl⟩
  | _, _, .cons h r => by
    obtain ⟨ds, h3, h4⟩ := dt_flts r
    obtain ⟨r0, hr0⟩ := Option.isSome_iff_exists.mp h.1
    obtain ⟨wd, n, ⟨p, rfl, e⟩, hs⟩ := flt_tup h.2 hr0
    exact ⟨_, (Dt.tup e ((Dt.str 0 wd hs).cons ((Dt.int 0 n).cons (DtA.nil 0)))).cons h3, by rw [List.length_cons, List.length_cons, h4]⟩
theorem rv_gd {H : Hp} : ∀ {rs : List Str} {gs : List Gd}, Paired RowP rs gs → ∀ {vs : List V}, Paired (RvAt H) vs (rs.map rowR) → Paired (GdAt H) vs gs
  | _, _, .nil, vs, h => by cases h; exact .nil
  | _, _, .cons a s, vs, h => by
    cases h with
    | cons hv r =>
      have a : rowR _ = some _ := a
      rw [a] at hv
      exact .cons hv (rv_gd s r)
section
variable {P : Program} {w : World} {K : PySem.W.Frag} {mg : Str → Option Value} {base : Heap} {A : Ad} {B fR fI pR pL : Addr}
abbrev Nscdue : List Str := ["_law_text_here", "_law_deals_here", "_law_faults", "_law_deal_here", "_law_row_here"]
theorem scdue : FnScope Nscdue ["_law_text_here"] (defScope s_due) := ⟨rfl, rfl, rfl, by decide +kernel, rfl, by decide +kernel, by decide +kernel⟩
def spDue : Sp := fun vs H Q _ => ∃ (x : Str), vs = [.str x] ∧ (tl x).length ≤ 50000 ∧ Sg x ∧ ∀ G v, Kp No H G → OutAt G v (outOf x) → Q v G
theorem ok_due (T : Txt K mg A) : ∃ fd, FnOk P w K mg base CX0 4 (A.d 56) fd ["_law_text_here"] spDue ∧ Binds K fd ["_law_text_here"] [] := by
  obtain ⟨fd, F⟩ := T.due.fn
  obtain ⟨fd1, Grow, brow⟩ := ok_rowL (P := P) (w := w) (base := base) T
  obtain ⟨fd2, Gfault, bfault⟩ := ok_fault (P := P) (w := w) (base := base) T
  refine ⟨fd, F.ok scdue (fun vs H Q E h => ?_) (fun cdv Ar outer s0 H vs Q E hr h => ?_), F.binds fun _ _ _ _ _ _ us hl => match us, hl with | [_], _ => rfl⟩
  · obtain ⟨x, rfl, _⟩ := h
    rfl
  · obtain ⟨x, rfl, hsz, hsg, k⟩ := h
    have hu := hu_of hr
    refine ⟨_, (pss_cons (ps_set (i := 1) scdue.nd rfl (Or.inl rfl) (pe_ifExp (pt_cmpR op_ne (pv 0) pe_str (nomark _)) (pe_lc (own := [("_law_row_here", 4)]) (g := (gName 4)) (by rfl) scdue.nd (pi_list (pe_split (pv 0) pe_str)) (blkOk_by (N := Nscdue) (sc := defScope s_due) (by decide +kernel)) (fun _ _ _ _ _ => pg_name (i := 4) scdue.nd rfl (Or.inl rfl)) (fun _ _ _ _ _ => pts_nil) (fun _ _ _ _ _ => (pe_call Grow (hr.mono (by first | decide | omega)) rfl T.row.at_ T.row.kp brow .nil pass0 (pa_cons (pv 4) pa_nil)))) (pe_lst pa_nil)))
      (pss_cons (ps_if (pt_cmpR (op_inD (by have := hr.un; show (Ar.deeper _).units + 65 < _; omega)) pe_non (pv 1) rfl)
        (pss_one (ps_ret (pe_tup (pa_cons pe_str (pa_cons (pe_bm PySem.F.plainAttrs_list PySem.F.slot_list_index PySem.F.type_list_index (mt_indexD (by have := hr.un; show (Ar.deeper _).units + 65 < _; omega)) (pv 1) (pa_cons pe_non pa_nil)) pa_nil)))))
        pss_nil)
      (pss_cons (ps_setLc (i := 2) (own := [("_law_deal_here", 3)]) (g := (gName 3)) (by rfl) scdue.nd rfl rfl (sw_true rfl rfl rfl (by decide +kernel)) (pi_list (pv 1)) (blkOk_by (N := Nscdue) (sc := defScope s_due) (by decide +kernel)) (fun _ _ _ _ _ => pg_name (i := 3) scdue.nd rfl (Or.inl rfl)) (fun _ _ _ _ _ => (pts_one (pt_cmp (pc_notN (pe_call Gfault (hr.mono (by first | decide | omega)) rfl T.fault.at_ T.fault.kp bfault .nil pass0 (pa_cons (pv 3) pa_nil)))))) (fun _ _ _ _ _ => (pe_call Gfault (hr.mono (by first | decide | omega)) rfl T.fault.at_ T.fault.kp bfault .nil pass0 (pa_cons (pv 3) pa_nil))))
      (pss_one (ps_ret (pe_ifExp (pt_cmpR (op_neD hr.units) (pv 2) (pe_lst pa_nil) (nomark _)) (pe_ix ix_list (pv 2) pe_int (fun _ _ => rfl)) (pv 1))))))), ?_⟩
    have LROWS : (rowsOf x).length ≤ 50001 := by
      unfold rowsOf
      split
      · simp
      · have := sepN.len x; omega
    refine ⟨_, rfl, rfl, _, rfl, ?_⟩
    by_cases hx : x = ""
    · rw [show (!decide (V.str x = V.str "")) = false from by rw [hx]; decide +kernel]
      refine iteF ⟨sz 0 (by decide), fun l nl => ?_⟩
      have kG0 : Kp No H (upd H l (.lst [])) := Kp.new nl
      have el0 : upd H l (.lst []) l = some (.lst []) := upd_same
      generalize upd H l (.lst []) = G0 at kG0 el0 ⊢
      have pr0 : Paired (RvAt G0) [] ((rowsOf x).map rowR) := by rw [show rowsOf x = [] from if_pos hx]; exact .nil
      obtain ⟨dd, hdd, hev⟩ := dt_rvs (K := K) pr0
      have dl := Dt.lst el0 hdd
      have e1 : (dd.any fun z => PyData.eqv z .none) = ((rowsOf x).map rowR).any Option.isNone := by
        have : (dd.map fun z => PyData.eqv z .none).any id = (((rowsOf x).map rowR).map Option.isNone).any id := by rw [hev]
        simpa [List.any_map] using this
      have evg : ∀ m : Nat, (dd[m]?).map (fun z => PyData.eqv z .none) = ((rowsOf x)[m]?).map (fun r => (rowR r).isNone) := fun m => by
        have := congrArg (fun l => l[m]?) hev
        simpa [List.getElem?_map, Option.map_map, Function.comp_def] using this
      refine ⟨_, rfl, _, _, .non, dl.1, by decide +kernel, dl.shaped (by decide), _, rfl, ?_⟩
      rw [e1]
      cases hR : rowsR (rowsOf x) with
      | inl i =>
        have oo : outOf x = .text i := by unfold outOf; rw [hR]
        obtain ⟨yb, gb, h1, h2, h3⟩ := rowsR_inl hR
        have et : (((rowsOf x).map rowR).any Option.isNone) = true := List.any_eq_true.mpr ⟨none, List.mem_map.mpr ⟨yb, List.mem_of_getElem? h1, h2⟩, rfl⟩
        rw [et]
        obtain ⟨z, hz, hz2⟩ : ∃ z, dd[i]? = some z ∧ PyData.eqv z .none = true := by
          have := evg i
          rw [h1] at this
          cases hd : dd[i]? with
          | none => rw [hd] at this; cases this
          | some z =>
            rw [hd] at this
            have this : PyData.eqv z .none = (rowR yb).isNone := Option.some.inj this
            exact ⟨z, rfl, by rw [this, h2]; rfl⟩
        refine iteT ⟨_, rfl, .inl ⟨rfl, _, SqL.of el0⟩, l, .non, .none, dd, i, z, rfl, rfl, dl.1, .non, dl.shaped (by decide), by decide +kernel, hz, hz2, fun m z' hm hz' => ?_, sz 2 (by decide), fun p np => k _ _ (kG0.trans (Kp.new np) fun _ z => False.elim z) (by rw [oo]; exact ⟨p, rfl, upd_same⟩)⟩
        have := evg m
        rw [hz'] at this
        cases hr2 : (rowsOf x)[m]? with
        | none => rw [hr2] at this; cases this
        | some r =>
          rw [hr2] at this
          have this : PyData.eqv z' .none = (rowR r).isNone := Option.some.inj this
          obtain ⟨g, _, hg⟩ := paired_at h3 (i := m) (x := r) (by rw [List.getElem?_take_of_lt hm]; exact hr2)
          have hg : rowR r = some g := hg
          rw [this, hg]
          rfl
      | inr gs =>
        have oo : outOf x = outG gs := by unfold outOf; rw [hR]
        have hgs := rowsR_inr hR
        have et : (((rowsOf x).map rowR).any Option.isNone) = false := by
          rw [Bool.eq_false_iff]
          intro z
          obtain ⟨o, ho, hn⟩ := List.any_eq_true.mp z
          obtain ⟨y, hy, rfl⟩ := List.mem_map.mp ho
          obtain ⟨m, hm⟩ := List.mem_iff_getElem?.mp hy
          exact rowP_bad hgs hm (Option.isNone_iff_eq_none.mp hn)
        rw [et]
        have pg := rv_gd hgs pr0
        refine iteF ⟨_, rfl, l, rfl, ⟨_, SqL.of el0⟩, fun D nD => ?_⟩
        have nlD : l ≠ D := fun z => by rw [z, nD] at el0; cases el0
        have back : ∀ {J : Hp}, Kp (fun b => b = D) G0 J → Kp No H J := fun kJ => kG0.trans (kp_fresh kJ fun b z => by rw [show b = D from z]; exact nD) fun _ z => False.elim z
        refine lc_list (K := K) (a := l) (xs := []) (fun i J => Kp (fun b => b = D) G0 J ∧ ∃ fs, J D = some (.lst fs) ∧ Paired (fun v g => (badG g).isSome = true ∧ FltAt J v g) fs ((gs.take i).filter fun g => (badG g).isSome)) ⟨Kp.new nD, [], upd_same, .nil⟩ (fun i J _ ⟨kJ, _⟩ => SqL.of (kJ.t.lst el0 nlD)) ?_ ?_
        · rintro i v J hv ⟨kJ, fs, eD, pf⟩
          obtain ⟨g, hg, gd⟩ := paired_at pg hv
          have hgN : GdN g := by
            have li := (List.getElem?_eq_some_iff.mp hg).1
            have : i < (rowsOf x).length := by rw [hgs.length]; exact li
            obtain ⟨g', hg', e'⟩ := paired_at hgs (List.getElem?_eq_getElem this)
            have : g' = g := Option.some.inj (hg'.symm.trans hg)
            subst this
            exact rowR_N e'
          have efl : (gs.take (i + 1)).filter (fun g => (badG g).isSome) = (gs.take i).filter (fun g => (badG g).isSome) ++ (if (badG g).isSome = true then [g] else []) := by
            rw [take_snoc hg, List.filter_append, List.filter_cons, List.filter_nil]
          refine ⟨rfl, _, rfl, v, g, rfl, gd.kt kJ.t, hgN, fun G2 u k2 hf => ⟨_, rfl, ?_⟩⟩
          have eD2 := k2.t.lst eD fun z => z
          have pf2 := pf.mono fun _ _ z => (⟨z.1, z.2.kt k2.t⟩ : _ ∧ _)
          cases hb : badG g with
          | none =>
            have hu2 : u = .non := by unfold FltAt at hf; rw [hb] at hf; exact hf
            subst hu2
            rw [hb] at efl
            refine iteF ⟨kJ.trans k2 fun _ z => False.elim z, fs, eD2, ?_⟩
            rw [efl]
            simpa using pf2
          | some r =>
            obtain ⟨wd, n, ⟨p, rfl, ep⟩, _⟩ := flt_tup hf hb
            rw [hb] at efl
            refine iteT ⟨_, rfl, v, g, rfl, (gd.kt kJ.t).kt k2.t, hgN, fun G3 u3 k3 hf3 => ?_⟩
            have eD3 := k3.t.lst eD2 fun z => z
            have kU : Kp (fun b => b = D) G3 (upd G3 D (.lst (fs ++ [u3]))) := Kp.updL eD3 rfl
            have lf : fs.length ≤ 60000 := by
              rw [pf.length]
              have l1 := List.length_filter_le (fun g => (badG g).isSome) (gs.take i)
              have l2 : (gs.take i).length ≤ gs.length := by rw [List.length_take]; omega
              have l3 := hgs.length
              have l4 := LROWS
              omega
            refine ⟨fs, eD3, Nat.lt_of_le_of_lt lf (by decide), ((kJ.trans k2 fun _ z => False.elim z).trans k3 fun _ z => False.elim z).trans kU fun b z => .inl z, _, upd_same, ?_⟩
            rw [efl]
            exact (pf2.mono fun _ _ z => (⟨z.1, (z.2.kt k3.t).kt kU.t⟩ : _ ∧ _)).snoc ⟨by rw [hb]; rfl, hf3.kt kU.t⟩
        · rintro J ⟨kJ, fs, eD, pf⟩
          rw [pg.length, List.take_length] at pf
          refine ⟨_, rfl, sz 0 (by decide), fun e ne => ?_⟩
          have kJe : Kp No J (upd J e (.lst [])) := Kp.new ne
          have ee : upd J e (.lst []) e = some (.lst []) := upd_same
          generalize upd J e (.lst []) = J2 at kJe ee ⊢
          have eD2 := kJe.t.lst eD fun z => z
          have pf2 := pf.mono fun _ _ z => (⟨z.1, z.2.kt kJe.t⟩ : _ ∧ _)
          obtain ⟨ds, hds, lds⟩ := dt_flts (K := K) pf2
          have dl2 := Dt.lst eD2 hds
          refine ⟨_, _, dl2.1, .lst (SqL.of ee) .nil, dl2.shaped (by decide), shaped_nil, _, rfl, ?_⟩
          rw [eqv_nil]
          have hfirst := badGs_first gs
          have kHJ2 := (back kJ).trans kJe fun _ z => False.elim z
          generalize gs.filter (fun g => (badG g).isSome) = fg at pf pf2 lds hfirst
          cases fg with
          | nil =>
            have : ds = [] := List.length_eq_zero_iff.mp lds
            rw [this]
            refine iteF ⟨_, rfl, k _ _ kHJ2 ?_⟩
            rw [oo]
            unfold outG
            rw [hfirst]
            exact ⟨l, _, rfl, kJe.t.lst (kJ.t.lst el0 nlD) (fun z => z), pg.mono fun _ _ z => (z.kt kJ.t).kt kJe.t⟩
          | cons g fg =>
            cases pf2 with
            | cons hv rest =>
            have : ds.isEmpty = false := by cases ds with
              | nil => cases lds
              | cons a b => rfl
            rw [this]
            obtain ⟨r, hr⟩ := Option.isSome_iff_exists.mp hv.1
            refine iteT ⟨_, rfl, D, _, 0, _, rfl, rfl, SqL.of eD2, atI_nat (j := 0) rfl, k _ _ kHJ2 ?_⟩
            rw [oo]
            exact fault_out hv.2 hr hfirst
    · rw [show (!decide (V.str x = V.str "")) = true from by rw [decide_eq_false fun z => hx (by injection z)]; rfl]
      have er : rowsOf x = Txt.split x "\n" := if_neg hx
      refine iteT ⟨_, rfl, ⟨_, rfl⟩, x, "\n", rfl, rfl, by decide +kernel, by rw [len_tl]; exact Nat.le_trans (Nat.add_le_add_right hsz 2) (by decide), ?_⟩
      have lp : ∀ y ∈ Txt.split x "\n", (tl y).length ≤ 50000 ∧ Sg y := fun y hy => ⟨by have := sepN.pcs hy; omega, sepN.sg hy hsg⟩
      rw [← er] at lp
      rw [← er]
      refine fun q nq => ?_
      have kq : Kp No H (upd H q (.lst ((rowsOf x).map V.str))) := Kp.new nq
      have eq : upd H q (.lst ((rowsOf x).map V.str)) q = some (.lst ((rowsOf x).map V.str)) := upd_same
      generalize upd H q (.lst ((rowsOf x).map V.str)) = H1 at kq eq ⊢
      refine ⟨q, rfl, ⟨_, SqL.of eq⟩, fun l nl => ?_⟩
      have nql : q ≠ l := fun z => by rw [z, nl] at eq; cases eq
      refine lc_list (K := K) (a := q) (xs := (rowsOf x).map V.str) (fun i J => Kp (fun b => b = l) H1 J ∧ ∃ acc, J l = some (.lst acc) ∧ Paired (RvAt J) acc (((rowsOf x).take i).map rowR)) ⟨Kp.new nl, [], upd_same, .nil⟩ (fun i J _ ⟨kJ, _⟩ => SqL.of (kJ.t.lst eq nql)) ?_ ?_
      · rintro i y J hy ⟨kJ, acc, eJ, pJ⟩
        rw [List.getElem?_map] at hy
        obtain ⟨m, hm, rfl⟩ : ∃ m, (rowsOf x)[i]? = some m ∧ V.str m = y := by
          cases e : (rowsOf x)[i]? with
          | none => rw [e] at hy; cases hy
          | some m => rw [e] at hy; exact ⟨m, rfl, Option.some.inj hy⟩
        have hi := (List.getElem?_eq_some_iff.mp hm).1
        obtain ⟨lm, sm⟩ := lp m (List.mem_of_getElem? hm)
        have la : acc.length ≤ 60000 := by have := pJ.length; rw [List.length_map, List.length_take] at this; omega
        have fin : ∀ {G : Hp} {v : V}, Kp No J G → RvAt G v (rowR m) → ∃ acc, G l = some (.lst acc) ∧ acc.length < sizeLine ∧ Kp (fun b => b = l) H1 (upd G l (.lst (acc ++ [v]))) ∧ ∃ acc', (upd G l (.lst (acc ++ [v]))) l = some (.lst acc') ∧ Paired (RvAt (upd G l (.lst (acc ++ [v])))) acc' (((rowsOf x).take (i + 1)).map rowR) := fun {G v} kG hv => by
          have eG := kG.t.lst eJ fun z => z
          have kU : Kp (fun b => b = l) G (upd G l (.lst (acc ++ [v]))) := Kp.updL eG rfl
          refine ⟨acc, eG, Nat.lt_of_le_of_lt la (by decide), (kJ.trans kG fun _ z => False.elim z).trans kU fun b z => .inl z, _, upd_same, ?_⟩
          rw [take_snoc hm, List.map_append]
          exact (pJ.mono fun _ _ z => (z.kt kG.t).kt kU.t).snoc (hv.kt kU.t)
        refine ⟨rfl, _, rfl, m, rfl, lm, sm, fun hn G kG => fin kG (by rw [hn]; rfl), fun g hg G u kG gd => fin kG (by rw [hg]; exact gd)⟩
      · rintro G0 ⟨kJ, acc, el0, pr0⟩
        rw [List.length_map, List.take_length] at pr0
        have kG0 : Kp No H G0 := kq.trans (kp_fresh kJ fun b z => by rw [show b = l from z]; exact nl) fun _ z => False.elim z
        obtain ⟨dd, hdd, hev⟩ := dt_rvs (K := K) pr0
        have dl := Dt.lst el0 hdd
        have e1 : (dd.any fun z => PyData.eqv z .none) = ((rowsOf x).map rowR).any Option.isNone := by
          have : (dd.map fun z => PyData.eqv z .none).any id = (((rowsOf x).map rowR).map Option.isNone).any id := by rw [hev]
          simpa [List.any_map] using this
        have evg : ∀ m : Nat, (dd[m]?).map (fun z => PyData.eqv z .none) = ((rowsOf x)[m]?).map (fun r => (rowR r).isNone) := fun m => by
          have := congrArg (fun l => l[m]?) hev
          simpa [List.getElem?_map, Option.map_map, Function.comp_def] using this
        refine ⟨_, rfl, _, _, .non, dl.1, by decide +kernel, dl.shaped (by decide), _, rfl, ?_⟩
        rw [e1]
        cases hR : rowsR (rowsOf x) with
        | inl i =>
          have oo : outOf x = .text i := by unfold outOf; rw [hR]
          obtain ⟨yb, gb, h1, h2, h3⟩ := rowsR_inl hR
          have et : (((rowsOf x).map rowR).any Option.isNone) = true := List.any_eq_true.mpr ⟨none, List.mem_map.mpr ⟨yb, List.mem_of_getElem? h1, h2⟩, rfl⟩
          rw [et]
          obtain ⟨z, hz, hz2⟩ : ∃ z, dd[i]? = some z ∧ PyData.eqv z .none = true := by
            have := evg i
            rw [h1] at this
            cases hd : dd[i]? with
            | none => rw [hd] at this; cases this
            | some z =>
              rw [hd] at this
              have this : PyData.eqv z .none = (rowR yb).isNone := Option.some.inj this
              exact ⟨z, rfl, by rw [this, h2]; rfl⟩
          refine iteT ⟨_, rfl, .inl ⟨rfl, _, SqL.of el0⟩, l, .non, .none, dd, i, z, rfl, rfl, dl.1, .non, dl.shaped (by decide), by decide +kernel, hz, hz2, fun m z' hm hz' => ?_, sz 2 (by decide), fun p np => k _ _ (kG0.trans (Kp.new np) fun _ z => False.elim z) (by rw [oo]; exact ⟨p, rfl, upd_same⟩)⟩
          have := evg m
          rw [hz'] at this
          cases hr2 : (rowsOf x)[m]? with
          | none => rw [hr2] at this; cases this
          | some r =>
            rw [hr2] at this
            have this : PyData.eqv z' .none = (rowR r).isNone := Option.some.inj this
            obtain ⟨g, _, hg⟩ := paired_at h3 (i := m) (x := r) (by rw [List.getElem?_take_of_lt hm]; exact hr2)
            have hg : rowR r = some g := hg
            rw [this, hg]
            rfl
        | inr gs =>
          have oo : outOf x = outG gs := by unfold outOf; rw [hR]
          have hgs := rowsR_inr hR
          have et : (((rowsOf x).map rowR).any Option.isNone) = false := by
            rw [Bool.eq_false_iff]
            intro z
            obtain ⟨o, ho, hn⟩ := List.any_eq_true.mp z
            obtain ⟨y, hy, rfl⟩ := List.mem_map.mp ho
            obtain ⟨m, hm⟩ := List.mem_iff_getElem?.mp hy
            exact rowP_bad hgs hm (Option.isNone_iff_eq_none.mp hn)
          rw [et]
          have pg := rv_gd hgs pr0
          refine iteF ⟨_, rfl, l, rfl, ⟨_, SqL.of el0⟩, fun D nD => ?_⟩
          have nlD : l ≠ D := fun z => by rw [z, nD] at el0; cases el0
          have back : ∀ {J : Hp}, Kp (fun b => b = D) G0 J → Kp No H J := fun kJ => kG0.trans (kp_fresh kJ fun b z => by rw [show b = D from z]; exact nD) fun _ z => False.elim z
          refine lc_list (K := K) (a := l) (xs := acc) (fun i J => Kp (fun b => b = D) G0 J ∧ ∃ fs, J D = some (.lst fs) ∧ Paired (fun v g => (badG g).isSome = true ∧ FltAt J v g) fs ((gs.take i).filter fun g => (badG g).isSome)) ⟨Kp.new nD, [], upd_same, .nil⟩ (fun i J _ ⟨kJ, _⟩ => SqL.of (kJ.t.lst el0 nlD)) ?_ ?_
          · rintro i v J hv ⟨kJ, fs, eD, pf⟩
            obtain ⟨g, hg, gd⟩ := paired_at pg hv
            have hgN : GdN g := by
              have li := (List.getElem?_eq_some_iff.mp hg).1
              have : i < (rowsOf x).length := by rw [hgs.length]; exact li
              obtain ⟨g', hg', e'⟩ := paired_at hgs (List.getElem?_eq_getElem this)
              have : g' = g := Option.some.inj (hg'.symm.trans hg)
              subst this
              exact rowR_N e'
            have efl : (gs.take (i + 1)).filter (fun g => (badG g).isSome) = (gs.take i).filter (fun g => (badG g).isSome) ++ (if (badG g).isSome = true then [g] else []) := by
              rw [take_snoc hg, List.filter_append, List.filter_cons, List.filter_nil]
            refine ⟨rfl, _, rfl, v, g, rfl, gd.kt kJ.t, hgN, fun G2 u k2 hf => ⟨_, rfl, ?_⟩⟩
            have eD2 := k2.t.lst eD fun z => z
            have pf2 := pf.mono fun _ _ z => (⟨z.1, z.2.kt k2.t⟩ : _ ∧ _)
            cases hb : badG g with
            | none =>
              have hu2 : u = .non := by unfold FltAt at hf; rw [hb] at hf; exact hf
              subst hu2
              rw [hb] at efl
              refine iteF ⟨kJ.trans k2 fun _ z => False.elim z, fs, eD2, ?_⟩
              rw [efl]
              simpa using pf2
            | some r =>
              obtain ⟨wd, n, ⟨p, rfl, ep⟩, _⟩ := flt_tup hf hb
              rw [hb] at efl
              refine iteT ⟨_, rfl, v, g, rfl, (gd.kt kJ.t).kt k2.t, hgN, fun G3 u3 k3 hf3 => ?_⟩
              have eD3 := k3.t.lst eD2 fun z => z
              have kU : Kp (fun b => b = D) G3 (upd G3 D (.lst (fs ++ [u3]))) := Kp.updL eD3 rfl
              have lf : fs.length ≤ 60000 := by
                rw [pf.length]
                have l1 := List.length_filter_le (fun g => (badG g).isSome) (gs.take i)
                have l2 : (gs.take i).length ≤ gs.length := by rw [List.length_take]; omega
                have l3 := hgs.length
                have l4 := LROWS
                omega
              refine ⟨fs, eD3, Nat.lt_of_le_of_lt lf (by decide), ((kJ.trans k2 fun _ z => False.elim z).trans k3 fun _ z => False.elim z).trans kU fun b z => .inl z, _, upd_same, ?_⟩
              rw [efl]
              exact (pf2.mono fun _ _ z => (⟨z.1, (z.2.kt k3.t).kt kU.t⟩ : _ ∧ _)).snoc ⟨by rw [hb]; rfl, hf3.kt kU.t⟩
          · rintro J ⟨kJ, fs, eD, pf⟩
            rw [pg.length, List.take_length] at pf
            refine ⟨_, rfl, sz 0 (by decide), fun e ne => ?_⟩
            have kJe : Kp No J (upd J e (.lst [])) := Kp.new ne
            have ee : upd J e (.lst []) e = some (.lst []) := upd_same
            generalize upd J e (.lst []) = J2 at kJe ee ⊢
            have eD2 := kJe.t.lst eD fun z => z
            have pf2 := pf.mono fun _ _ z => (⟨z.1, z.2.kt kJe.t⟩ : _ ∧ _)
            obtain ⟨ds, hds, lds⟩ := dt_flts (K := K) pf2
            have dl2 := Dt.lst eD2 hds
            refine ⟨_, _, dl2.1, .lst (SqL.of ee) .nil, dl2.shaped (by decide), shaped_nil, _, rfl, ?_⟩
            rw [eqv_nil]
            have hfirst := badGs_first gs
            have kHJ2 := (back kJ).trans kJe fun _ z => False.elim z
            generalize gs.filter (fun g => (badG g).isSome) = fg at pf pf2 lds hfirst
            cases fg with
            | nil =>
              have : ds = [] := List.length_eq_zero_iff.mp lds
              rw [this]
              refine iteF ⟨_, rfl, k _ _ kHJ2 ?_⟩
              rw [oo]
              unfold outG
              rw [hfirst]
              exact ⟨l, _, rfl, kJe.t.lst (kJ.t.lst el0 nlD) (fun z => z), pg.mono fun _ _ z => (z.kt kJ.t).kt kJe.t⟩
            | cons g fg =>
              cases pf2 with
              | cons hv rest =>
              have : ds.isEmpty = false := by cases ds with
                | nil => cases lds
                | cons a b => rfl
              rw [this]
              obtain ⟨r, hr⟩ := Option.isSome_iff_exists.mp hv.1
              refine iteT ⟨_, rfl, D, _, 0, _, rfl, rfl, SqL.of eD2, atI_nat (j := 0) rfl, k _ _ kHJ2 ?_⟩
              rw [oo]
              exact fault_out hv.2 hr hfirst
end
end S02

set_option Elab.async false
set_option linter.all false
set_option maxRecDepth 100000
set_option maxHeartbeats 4000000
/-! ### texts spoilt -/
namespace S02
open PySem PySem.Spec PyProof.Rows L2 K5 SupX GenX TL
/-- the lengths of rows, each with its end -/
def Wt (l : List Str) : Nat := (l.map fun p => (tl p).length + 1).sum
theorem Wt_app (a b : List Str) : Wt (a ++ b) = Wt a + Wt b := by unfold Wt; rw [List.map_append, List.sum_append]
theorem Wt_one (p : Str) : Wt [p] = (tl p).length + 1 := by unfold Wt; simp
theorem Wt_cut (l : List Str) (i : Nat) : Wt (l.take i) + Wt (l.drop i) = Wt l := by rw [← Wt_app, List.take_append_drop]
theorem Wt_le_drop (l : List Str) (i j : Nat) (h : i ≤ j) : Wt (l.take i) + Wt (l.drop j) ≤ Wt l := by
  have h1 := Wt_cut l i
  have h2 := Wt_cut (l.drop i) (j - i)
  rw [List.drop_drop, show i + (j - i) = j by omega] at h2
  omega
theorem Wt_spl {S : List Nat} : ∀ (k : Nat) (l acc : List Nat), l.length ≤ k → ((spl S 0 acc l).map fun p => p.length + 1).sum ≤ acc.length + l.length + 1
  | 0, l, acc, h => by
    cases l with
    | nil => rw [spl_nil]; simp
    | cons c r => simp at h
  | k + 1, l, acc, h => by
    cases l with
    | nil => rw [spl_nil]; simp
    | cons c r =>
      rw [List.length_cons] at h
      cases hp : pre S (c :: r) with
      | true =>
        rw [spl_hit hp, spl_pass, List.map_cons, List.sum_cons]
        have hl : (r.drop (S.length - 1)).length ≤ r.length := by rw [List.length_drop]; omega
        have := Wt_spl (S := S) k (r.drop (S.length - 1)) [] (by omega)
        rw [List.length_cons]
        simp at this
        simp at hl
        omega
      | false =>
        rw [spl_miss hp]
        have := Wt_spl (S := S) k r (acc ++ [c]) (by omega)
        rw [List.length_append, List.length_singleton] at this
        rw [List.length_cons]
        omega
theorem SepOk.wt {y : Str} (h : SepOk y) (x : Str) : Wt (Txt.split x y) ≤ (tl x).length + 1 := by
  have e : Wt (Txt.split x y) = (((Txt.split x y).map tl).map fun p => p.length + 1).sum := by unfold Wt; rw [List.map_map]; rfl
  rw [e, h.spl]
  have := Wt_spl (S := tl y) (tl x).length (tl x) [] (Nat.le_refl _)
  simpa using this
theorem join_wt {S : List Nat} (h1 : S.length ≤ 1) : ∀ (l : List Str), (joinL S (l.map tl)).length ≤ Wt l
  | [] => Nat.zero_le _
  | [p] => by
    rw [Wt_one]
    show (tl p).length ≤ _
    omega
  | p :: q :: r => by
    have := join_wt h1 (q :: r)
    show (tl p ++ (S ++ joinL S ((q :: r).map tl))).length ≤ _
    rw [List.length_append, List.length_append, show p :: q :: r = [p] ++ (q :: r) from rfl, Wt_app, Wt_one]
    omega
theorem sum_wt : ∀ (l : List Str), (l.map (·.length)).sum + l.length ≤ Wt l
  | [] => Nat.le_refl _
  | p :: r => by
    have := sum_wt r
    rw [show p :: r = [p] ++ r from rfl, Wt_app, Wt_one, List.singleton_append, List.map_cons, List.sum_cons, List.length_cons, len_tl]
    omega
theorem join_sg {y : Str} (hy : Sg y) {l : List Str} (h : ∀ p ∈ l, Sg p) : Sg (Txt.join y l) := by
  intro c hc
  rw [join_eq, tl_join] at hc
  rcases joinL_mem hc with hc | ⟨p, hp, hc⟩
  · exact hy c hc
  · obtain ⟨q, hq, rfl⟩ := List.mem_map.mp hp
    exact h q hq c hc
theorem join_len {y : Str} (hy : (tl y).length ≤ 1) (l : List Str) : (tl (Txt.join y l)).length ≤ Wt l := by
  rw [join_eq, tl_join]
  exact join_wt hy l
theorem sg_app {x y : Str} (h1 : Sg x) (h2 : Sg y) : Sg (x ++ y) := fun c hc => by
  rw [tl_append] at hc
  exact (List.mem_append.mp hc).elim (h1 c) (h2 c)
def sgB (x : Str) : Bool := (tl x).all fun c => decide (c < 1114112)
theorem sgB_ok {x : Str} (h : sgB x = true) : Sg x := fun c hc => of_decide_eq_true (List.all_eq_true.mp h c hc)
theorem cut_to (xs : List V) (q : Nat) : cutV xs none (some (q : Int)) = xs.take q := by
  unfold cutV
  rw [HT.sIx_none, HT.sIx_nat, List.drop_zero, Nat.sub_zero]
  by_cases c : q ≤ xs.length
  · rw [Nat.min_eq_left c]
  · rw [Nat.min_eq_right (by omega), List.take_length, List.take_of_length_le (by omega)]
theorem cut_from (xs : List V) (q : Nat) : cutV xs (some (q : Int)) none = xs.drop q := by
  unfold cutV
  rw [HT.sIx_none, HT.sIx_nat]
  by_cases c : q ≤ xs.length
  · rw [Nat.min_eq_left c]
    exact List.take_of_length_le (by rw [List.length_drop]; exact Nat.le_refl _)
  · rw [Nat.min_eq_right (by omega), Nat.sub_self, List.take_zero, List.drop_of_length_le (by omega)]
theorem cutS_sg {x : Str} (h : Sg x) (lo hi : Option Int) : Sg (cutS x lo hi) := fun c hc => by
  have hc : c ∈ ((tl x).drop (HT.sIx x.length 0 lo)).take (HT.sIx x.length x.length hi - HT.sIx x.length 0 lo) := hc
  exact h c (List.mem_of_mem_drop (List.mem_of_mem_take hc))
theorem cutS_tl (x : Str) (lo hi : Option Int) : (tl (cutS x lo hi)).length ≤ (tl x).length := by
  rw [← len_tl, ← len_tl]
  exact cutS_length x lo hi
theorem mem_sub {rs : List Str} {P : Str → Prop} (h : ∀ p ∈ rs, P p) (i j : Nat) {mid : List Str} (hm : ∀ p ∈ mid, P p) : ∀ p ∈ rs.take i ++ mid ++ rs.drop j, P p := fun p hp => by
  rcases List.mem_append.mp hp with hp | hp
  · rcases List.mem_append.mp hp with hp | hp
    · exact h p (List.mem_of_mem_take hp)
    · exact hm p hp
  · exact h p (List.mem_of_mem_drop hp)
theorem Wt_mid (rs : List Str) (i j : Nat) (mid : List Str) : Wt (rs.take i ++ mid ++ rs.drop j) = Wt (rs.take i) + Wt mid + Wt (rs.drop j) := by rw [Wt_app, Wt_app]
theorem Wt_row {rs : List Str} {i : Nat} {p : Str} (h : rs[i]? = some p) : Wt (rs.take i) + ((tl p).length + 1) + Wt (rs.drop (i + 1)) = Wt rs := by
  have h1 := Wt_cut rs (i + 1)
  rw [take_snoc h, Wt_app, Wt_one] at h1
  exact h1
theorem Wt_set {ws : List Str} {i : Nat} (hi : i < ws.length) (o : Str) : Wt (ws.set i o) ≤ Wt ws + (tl o).length + 1 := by
  have h1 : ws.set i o = ws.take i ++ [o] ++ ws.drop (i + 1) := by rw [List.set_eq_take_append_cons_drop, if_pos hi]; simp
  rw [h1, Wt_mid, Wt_one]
  have := Wt_le_drop ws i (i + 1) (by omega)
  omega
def signL : Str := "0123456789 -;:\nabcdefghijklmnopqrstuvwxyz!#$&'()*+,./<=>?@ABCDEFGHIJKLMNOPQRSTUVWXYZ[]^_`{|}~"
theorem signL_ok : Sg signL := sgB_ok (by decide +kernel)
theorem signL_len : 15 ≤ (tl signL).length ∧ (tl signL).length ≤ 200 := by decide +kernel
theorem sign_at {n : Nat} (h : n < (tl signL).length) : ∃ c, atI signL.cps.toList (n : Int) = some c ∧ Sg (⟨#[c]⟩ : Str) := by
  have e : (tl signL)[n]? = some (tl signL)[n] := List.getElem?_eq_getElem h
  refine ⟨_, atI_nat e, fun d hd => ?_⟩
  rw [List.mem_singleton.mp (show d ∈ [(tl signL)[n]] from hd)]
  exact signL_ok _ (List.getElem_mem h)
def oddL : List Str := ["", "put", "drop", "add", "if", "take", "0", "00", "07", "-1", "-", "-0", "9999", "10000", "32", "4:", "5;", ";", "x", "1001", "--1"]
def moreL : List Str := ["; drop 2", "; put 1 2", "; add 3 -", "; if 2 -3", "; drop -1", ";", "; ", ": drop 1"]
theorem oddL_ok : ∀ p ∈ oddL, (tl p).length ≤ 5 ∧ Sg p := fun p hp => by
  have h : (oddL.all fun p => decide ((tl p).length ≤ 5) && sgB p) = true := by decide +kernel
  have := List.all_eq_true.mp h p hp
  rw [Bool.and_eq_true] at this
  exact ⟨of_decide_eq_true this.1, sgB_ok this.2⟩
theorem moreL_ok : ∀ p ∈ moreL, (tl p).length ≤ 9 ∧ Sg p := fun p hp => by
  have h : (moreL.all fun p => decide ((tl p).length ≤ 9) && sgB p) = true := by decide +kernel
  have := List.all_eq_true.mp h p hp
  rw [Bool.and_eq_true] at this
  exact ⟨of_decide_eq_true this.1, sgB_ok this.2⟩
section
variable {P : Program} {w : World} {K : PySem.W.Frag} {mg : Str → Option Value} {base : Heap} {A : Ad} {B fR fI pR pL : Addr}
abbrev Nscspoilt : List Str := ["_law_box", "_law_text_here", "_law_deed_here", "_law_place", "_law_rows", "_law_k", "_law_words", "_law_odd", "_law_more", "_law_signs", "_law_sign"]
theorem scspoilt : FnScope Nscspoilt ["_law_box", "_law_text_here"] (defScope s_spoilt) := ⟨rfl, rfl, rfl, by decide +kernel, rfl, by decide +kernel, by decide +kernel⟩
def spSpoilt : Sp := fun vs H Q _ => ∃ (bx bi : Addr) (x : Str), vs = [.ref bx, .str x] ∧ BoxAt H bx bi ∧ (tl x).length ≤ 50000 ∧ Sg x ∧ ∀ G y, BoxAt G bx bi → Kp (bF bx bi) H G → (tl y).length ≤ 2 * (tl x).length + 100 → Sg y → Q (.str y) G
theorem ok_spoilt (T : Txt K mg A) : ∃ fd, FnOk P w K mg base CX0 2 (A.d 50) fd ["_law_box", "_law_text_here"] spSpoilt ∧ Binds K fd ["_law_box", "_law_text_here"] [] := by
  obtain ⟨fd, F⟩ := T.spoilt.fn
  obtain ⟨fd1, Gtake, btake⟩ := ok_take (P := P) (w := w) (base := base) T
  refine ⟨fd, F.ok scspoilt (fun vs H Q E h => ?_) (fun cdv Ar outer s0 H vs Q E hr h => ?_), F.binds fun _ _ _ _ _ _ us hl => match us, hl with | [_, _], _ => rfl⟩
  · obtain ⟨bx, bi, x, rfl, _⟩ := h
    rfl
  · obtain ⟨bx, bi, x, rfl, BX, hsz, hsg, k⟩ := h
    have hu := hu_of hr
    refine ⟨_, (pss_cons (ps_set (i := 2) scspoilt.nd rfl (Or.inl rfl) (pe_call Gtake (hr.mono (by first | decide | omega)) rfl T.take.at_ T.take.kp btake .nil pass0 (pa_cons (pv 0) (pa_cons pe_int pa_nil))))
      (pss_cons (ps_set (i := 3) scspoilt.nd rfl (Or.inl rfl) (pe_call Gtake (hr.mono (by first | decide | omega)) rfl T.take.at_ T.take.kp btake .nil pass0 (pa_cons (pv 0) (pa_cons (pe_op op_add (pe_callB call_len_str (by rfl) T.len PySem.boot_len (pa_cons (pv 1) pa_nil)) pe_int) pa_nil))))
      (pss_cons (ps_set (i := 4) scspoilt.nd rfl (Or.inl rfl) (pe_split (pv 1) pe_str))
      (pss_cons (ps_set (i := 5) scspoilt.nd rfl (Or.inl rfl) (pe_call Gtake (hr.mono (by first | decide | omega)) rfl T.take.at_ T.take.kp btake .nil pass0 (pa_cons (pv 0) (pa_cons (pe_callB call_len_seq (by rfl) T.len PySem.boot_len (pa_cons (pv 4) pa_nil)) pa_nil))))
      (pss_cons (ps_if (pt_cmpR op_lt (pv 2) pe_int (nomark _))
        (pss_one (ps_ret (pe_join pe_str (pe_op op_cat (pe_slice sl_list (pv 4) po_none (po_some (pe_op op_add (pv 5) (pv 2)))) (pe_slice sl_list (pv 4) (po_some (pe_op op_sub (pe_op op_add (pv 5) pe_int) (pv 2))) po_none)))))
        pss_nil)
      (pss_cons (ps_if (pt_cmpR op_eq (pv 2) pe_int (nomark _))
        (pss_cons (ps_set (i := 6) scspoilt.nd rfl (Or.inl rfl) (pe_split (pe_ix ix_list (pv 4) (pv 5) (fun _ _ => rfl)) pe_str))
        (pss_cons (ps_set (i := 7) scspoilt.nd rfl (Or.inl rfl) (pe_lst (pa_cons pe_str (pa_cons pe_str (pa_cons pe_str (pa_cons pe_str (pa_cons pe_str (pa_cons pe_str (pa_cons pe_str (pa_cons pe_str (pa_cons pe_str (pa_cons pe_str (pa_cons pe_str (pa_cons pe_str (pa_cons pe_str (pa_cons pe_str (pa_cons pe_str (pa_cons pe_str pa_nil))))))))))))))))))
        (pss_cons (ps_asg (pe_ix ix_list (pe_op op_cat (pv 7) (pe_lst (pa_cons pe_str (pa_cons pe_str (pa_cons pe_str (pa_cons pe_str (pa_cons pe_str pa_nil))))))) (pe_call Gtake (hr.mono (by first | decide | omega)) rfl T.take.at_ T.take.kp btake .nil pass0 (pa_cons (pv 0) (pa_cons pe_int pa_nil))) (fun _ _ => rfl)) (pg_sub (pv 6) (pe_call Gtake (hr.mono (by first | decide | omega)) rfl T.take.at_ T.take.kp btake .nil pass0 (pa_cons (pv 0) (pa_cons (pe_callB call_len_seq (by rfl) T.len PySem.boot_len (pa_cons (pv 6) pa_nil)) pa_nil))) set_list))
        (pss_one (ps_ret (pe_join pe_str (pe_op op_cat (pe_op op_cat (pe_slice sl_list (pv 4) po_none (po_some (pv 5))) (pe_lst (pa_cons (pe_join pe_str (pv 6)) pa_nil))) (pe_slice sl_list (pv 4) (po_some (pe_op op_add (pv 5) pe_int)) po_none))))))))
        pss_nil)
      (pss_cons (ps_if (pt_cmpR op_eq (pv 2) pe_int (nomark _))
        (pss_cons (ps_set (i := 8) scspoilt.nd rfl (Or.inl rfl) (pe_lst (pa_cons pe_str (pa_cons pe_str (pa_cons pe_str (pa_cons pe_str (pa_cons pe_str (pa_cons pe_str (pa_cons pe_str (pa_cons pe_str pa_nil))))))))))
        (pss_one (ps_ret (pe_join pe_str (pe_op op_cat (pe_op op_cat (pe_slice sl_list (pv 4) po_none (po_some (pv 5))) (pe_lst (pa_cons (pe_op op_add_str (pe_ix ix_list (pv 4) (pv 5) (fun _ _ => rfl)) (pe_ix ix_list (pv 8) (pe_call Gtake (hr.mono (by first | decide | omega)) rfl T.take.at_ T.take.kp btake .nil pass0 (pa_cons (pv 0) (pa_cons pe_int pa_nil))) (fun _ _ => rfl))) pa_nil))) (pe_slice sl_list (pv 4) (po_some (pe_op op_add (pv 5) pe_int)) po_none))))))
        pss_nil)
      (pss_cons (ps_set (i := 9) scspoilt.nd rfl (Or.inl rfl) pe_str)
      (pss_cons (ps_set (i := 10) scspoilt.nd rfl (Or.inl rfl) (pe_ix ix_list (pe_lst (pa_cons (pe_ix ix_str (pv 9) (pe_call Gtake (hr.mono (by first | decide | omega)) rfl T.take.at_ T.take.kp btake .nil pass0 (pa_cons (pv 0) (pa_cons (pe_callB call_len_str (by rfl) T.len PySem.boot_len (pa_cons (pv 9) pa_nil)) pa_nil))) (fun _ _ => rfl)) (pa_cons pe_str (pa_cons (pe_ix ix_str (pv 9) (pe_call Gtake (hr.mono (by first | decide | omega)) rfl T.take.at_ T.take.kp btake .nil pass0 (pa_cons (pv 0) (pa_cons pe_int pa_nil))) (fun _ _ => rfl)) pa_nil)))) (pe_op op_sub (pv 2) pe_int) (fun _ _ => rfl)))
      (pss_one (ps_ret (pe_op op_add_str (pe_op op_add_str (pe_slice sl_str (pv 1) po_none (po_some (pv 3))) (pv 10)) (pe_slice sl_str (pv 1) (po_some (pe_op op_add (pv 3) (pe_callTy call_int1 (by rfl) T.int (by decide +kernel) (pa_cons (pe_cmpR op_gt (pv 2) pe_int (nomark _)) pa_nil)))) po_none))))))))))))), ?_⟩
    have hszs : x.length ≤ sizeLine := by rw [len_tl]; exact Nat.le_trans hsz (by decide)
    refine ⟨_, rfl, bx, bi, 7, rfl, BX, by decide, by decide, fun n7 G1 a0 a1 B1 k1 => ?_⟩
    obtain ⟨d7, rfl⟩ := Int.eq_ofNat_of_zero_le a0
    refine ⟨_, rfl, _, rfl, x, rfl, hszs, _, _, rfl, rfl, bx, bi, _, rfl, B1, by omega, by rw [len_tl]; omega, fun n8 G2 b0 b1 B2 k2' => ?_⟩
    obtain ⟨pl, rfl⟩ := Int.eq_ofNat_of_zero_le b0
    have k2 : Kp (bF bx bi) H G2 := k1.trans k2' fun _ z => .inl z
    refine ⟨_, rfl, ⟨_, rfl⟩, x, "\n", rfl, rfl, by decide +kernel, by rw [len_tl]; exact Nat.le_trans (Nat.add_le_add_right hsz 2) (by decide), ?_⟩
    have lp : ∀ y ∈ Txt.split x "\n", Sg y := fun y hy => sepN.sg hy hsg
    have nrs := sepN.some x
    have wrs := sepN.wt x
    have lrs := sepN.len x
    generalize Txt.split x "\n" = rs at lp nrs wrs lrs ⊢
    refine fun q nq => ?_
    have k3 : Kp (bF bx bi) H (upd G2 q (.lst (rs.map V.str))) := k2.andN nq
    have B3 : BoxAt (upd G2 q (.lst (rs.map V.str))) bx bi := B2.kt (Kp.t (Kp.new (F := No) nq)) (fun _ z => False.elim z)
    have e3 : upd G2 q (.lst (rs.map V.str)) q = some (.lst (rs.map V.str)) := upd_same
    have nqB : ¬ bF bx bi q := fun z => by
      obtain ⟨ns, st, h1, h2, _⟩ := B2.ex
      rcases z with z | z <;> rw [z] at nq
      · rw [h1] at nq; cases nq
      · rw [h2] at nq; cases nq
    generalize upd G2 q (.lst (rs.map V.str)) = G3 at k3 B3 e3 ⊢
    have rpos : 0 < rs.length := List.length_pos_iff.mpr nrs
    refine ⟨_, rfl, _, rfl, q, _, rfl, .inl (SqL.of e3), bx, bi, _, rfl, B3, by rw [List.length_map]; omega, by rw [List.length_map]; omega, fun n9 G4 c0 c1 B4 k4' => ?_⟩
    obtain ⟨kk, rfl⟩ := Int.eq_ofNat_of_zero_le c0
    have hkk : kk < rs.length := by rw [List.length_map] at c1; omega
    have k4 : Kp (bF bx bi) H G4 := k3.trans k4' fun _ z => .inl z
    have e4 := k4'.t.lst e3 nqB
    have joinN : Sg ("\n" : Str) := sgB_ok (by decide +kernel)
    have joinS : Sg (" " : Str) := sgB_ok (by decide +kernel)
    have n1 : (tl ("\n" : Str)).length ≤ 1 := by decide +kernel
    have s1 : (tl (" " : Str)).length ≤ 1 := by decide +kernel
    have nl1 : ("\n" : Str).length = 1 := by decide +kernel
    have sp1 : (" " : Str).length = 1 := by decide +kernel
    refine ⟨_, rfl, _, _, rfl, rfl, _, rfl, ?_⟩
    by_cases hd2 : d7 < 2
    · rw [show decide (((d7 : Nat) : Int) < 2) = true from decide_eq_true (by omega)]
      refine iteT ⟨⟨_, rfl⟩, _, rfl, _, rfl, _, rfl, _, _, rfl, rfl, _, rfl, q, _, rfl, SqL.of e4, fun p1 np1 => ?_⟩
      have kp1 : Kp No G4 (upd G4 p1 (.lst (cutV (rs.map V.str) none (some ((kk : Int) + (d7 : Int)))))) := Kp.new np1
      have ep1 : upd G4 p1 (.lst (cutV (rs.map V.str) none (some ((kk : Int) + (d7 : Int))))) p1 = some (.lst ((rs.take (kk + d7)).map V.str)) := by
        rw [upd_same, show ((kk : Int) + (d7 : Int)) = ((kk + d7 : Nat) : Int) by omega, cut_to, List.map_take]
      generalize upd G4 p1 (.lst (cutV (rs.map V.str) none (some ((kk : Int) + (d7 : Int))))) = G5 at kp1 ep1 ⊢
      have e5 := kp1.t.lst e4 fun z => z
      refine ⟨_, rfl, _, rfl, _, _, rfl, rfl, _, rfl, _, _, rfl, rfl, _, rfl, q, _, rfl, SqL.of e5, fun p2 np2 => ?_⟩
      have kp2 : Kp No G5 (upd G5 p2 (.lst (cutV (rs.map V.str) (some ((kk : Int) + 1 - (d7 : Int))) none))) := Kp.new np2
      have ep2 : upd G5 p2 (.lst (cutV (rs.map V.str) (some ((kk : Int) + 1 - (d7 : Int))) none)) p2 = some (.lst ((rs.drop (kk + 1 - d7)).map V.str)) := by
        rw [upd_same, show ((kk : Int) + 1 - (d7 : Int)) = ((kk + 1 - d7 : Nat) : Int) by omega, cut_from, List.map_drop]
      generalize upd G5 p2 (.lst (cutV (rs.map V.str) (some ((kk : Int) + 1 - (d7 : Int))) none)) = G6 at kp2 ep2 ⊢
      have ep1' := kp2.t.lst ep1 fun z => z
      have hW : Wt (rs.take (kk + d7) ++ rs.drop (kk + 1 - d7)) ≤ 2 * Wt rs := by
        rw [Wt_app]
        have h1 := Wt_cut rs (kk + d7)
        have h2 := Wt_cut rs (kk + 1 - d7)
        omega
      refine ⟨p1, p2, _, _, rfl, rfl, ep1', ep2, by rw [sizeLine_eq, List.length_map, List.length_map, List.length_take, List.length_drop]; omega, fun p3 np3 => ?_⟩
      have kA : Kp No G4 (upd G6 p3 (.lst ((rs.take (kk + d7)).map V.str ++ (rs.drop (kk + 1 - d7)).map V.str))) := (kp1.trans kp2 fun _ z => False.elim z).trans (Kp.new np3) fun _ z => False.elim z
      have sw := sum_wt (rs.take (kk + d7) ++ rs.drop (kk + 1 - d7))
      refine ⟨"\n", p3, rs.take (kk + d7) ++ rs.drop (kk + 1 - d7), rfl, rfl, .inl (SqL.of (by rw [upd_same, List.map_append])), by rw [nl1]; omega, ?_⟩
      refine k _ _ (B4.kt kA.t fun _ z => False.elim z) (k4.trans kA fun _ z => False.elim z) ?_ (join_sg joinN fun p hp => ?_)
      · have := join_len n1 (rs.take (kk + d7) ++ rs.drop (kk + 1 - d7))
        omega
      · exact (List.mem_append.mp hp).elim (fun h => lp p (List.mem_of_mem_take h)) fun h => lp p (List.mem_of_mem_drop h)
    rw [show decide (((d7 : Nat) : Int) < 2) = false from decide_eq_false (by omega)]
    refine iteF ⟨_, rfl, rfl, _, rfl, ?_⟩
    obtain ⟨rk, hrk⟩ : ∃ r, rs[kk]? = some r := ⟨_, List.getElem?_eq_getElem hkk⟩
    have srk := lp rk (List.mem_of_getElem? hrk)
    have wrow := Wt_row hrk
    have ark : atI (rs.map V.str) (kk : Int) = some (.str rk) := atI_nat (by rw [List.getElem?_map, hrk]; rfl)
    have lrk : (tl rk).length ≤ 50000 := by omega
    -- a row put in the place of the k-th
    have put : ∀ {G : Hp} {p1 pm p2 p3 p4 : Addr} {mid : Str}, BoxAt G bx bi → Kp (bF bx bi) H G → Sg mid → (tl mid).length ≤ (tl rk).length + 10 → Q (.str (Txt.join "\n" (rs.take kk ++ [mid] ++ rs.drop (kk + 1)))) G := fun {G p1 pm p2 p3 p4 mid} BG kG sm lm => by
      refine k _ _ BG kG ?_ (join_sg joinN (mem_sub lp kk (kk + 1) fun p hp => by rw [List.mem_singleton.mp hp]; exact sm))
      have h1 := join_len n1 (rs.take kk ++ [mid] ++ rs.drop (kk + 1))
      rw [Wt_mid, Wt_one] at h1
      exact Nat.le_trans h1 (by omega)
    have szm : ∀ (mid : Str), (tl mid).length ≤ 60000 → ((rs.take kk ++ [mid] ++ rs.drop (kk + 1)).map (·.length)).sum + (rs.take kk ++ [mid] ++ rs.drop (kk + 1)).length * 1 ≤ 16777216 := fun mid lm => by
      have h1 := sum_wt (rs.take kk ++ [mid] ++ rs.drop (kk + 1))
      have h2 := Wt_mid rs kk (kk + 1) [mid]
      rw [Wt_one] at h2
      omega
    -- the row of slices
    have row : ∀ {G : Hp} {σ : L2.St} {mt : TE}, G q = some (.lst (rs.map V.str)) → BoxAt G bx bi → Kp (bF bx bi) H G → σ[4]? = some (some (.ref q)) → σ[5]? = some (some (.int (kk : Nat))) →
        (∀ (G1 : Hp) (Q1 : VK), Kp No G G1 → (∀ G2 (mid : Str), (tl mid).length ≤ (tl rk).length + 10 → Sg mid → Kp (bF bx bi) G1 G2 → BoxAt G2 bx bi → Q1 (.str mid) G2) → mt σ G1 Q1) →
        (tM1 (fun x xs H Q => ∃ a p ys, x = V.str a ∧ xs = [V.ref p] ∧ (SqL K H p (List.map V.str ys) ∨ SqT K H p (List.map V.str ys)) ∧ (List.map (fun x => x.length) ys).sum + ys.length * a.length ≤ 16777216 ∧ Q (V.str (Txt.join a ys)) H) (tC (V.str "\n"))
          (tOp rCat (tOp rCat (tSl (rSlL K) (tVar 4) tNoPart (tPart (tVar 5))) (tLst (tCons mt tNil))) (tSl (rSlL K) (tVar 4) (tPart (tOp (rI0 fun i j => V.int (i + j)) (tVar 5) (tC (V.int 1)))) tNoPart))) σ G Q := fun {G σ mt} eq BG kG h4 h5 hm => by
      refine ⟨⟨_, rfl⟩, _, h4, _, h5, _, rfl, q, _, rfl, SqL.of eq, fun p1 np1 => ?_⟩
      have kp1 : Kp No G (upd G p1 (.lst (cutV (rs.map V.str) none (some ((kk : Nat) : Int))))) := Kp.new np1
      have ep1 : upd G p1 (.lst (cutV (rs.map V.str) none (some ((kk : Nat) : Int)))) p1 = some (.lst ((rs.take kk).map V.str)) := by rw [upd_same, cut_to, List.map_take]
      have np1B : ¬ bF bx bi p1 := fun z => by
        obtain ⟨ns, st, h1, h2, _⟩ := BG.ex
        rcases z with z | z <;> rw [z] at np1
        · rw [h1] at np1; cases np1
        · rw [h2] at np1; cases np1
      generalize upd G p1 (.lst (cutV (rs.map V.str) none (some ((kk : Nat) : Int)))) = F1 at kp1 ep1 ⊢
      refine hm _ _ kp1 fun F2 mid lm sm kF2 B2' => ⟨sz 1 (by decide), fun p2 np2 => ?_⟩
      have ep1' := kF2.t.lst ep1 np1B
      have eq2 := kF2.t.lst (kp1.t.lst eq fun z => z) nqB
      have kp2 : Kp No F2 (upd F2 p2 (.lst [.str mid])) := Kp.new np2
      have ep2 : upd F2 p2 (.lst [.str mid]) p2 = some (.lst [.str mid]) := upd_same
      generalize upd F2 p2 (.lst [.str mid]) = F3 at kp2 ep2 ⊢
      refine ⟨p1, p2, _, _, rfl, rfl, kp2.t.lst ep1' (fun z => z), ep2, by rw [sizeLine_eq, List.length_map, List.length_take, List.length_singleton]; omega, fun p3 np3 => ?_⟩
      have kp3 : Kp No F3 (upd F3 p3 (.lst ((rs.take kk).map V.str ++ [.str mid]))) := Kp.new np3
      have ep3 : upd F3 p3 (.lst ((rs.take kk).map V.str ++ [.str mid])) p3 = some (.lst ((rs.take kk).map V.str ++ [.str mid])) := upd_same
      generalize upd F3 p3 (.lst ((rs.take kk).map V.str ++ [.str mid])) = F4 at kp3 ep3 ⊢
      have eq4 := kp3.t.lst (kp2.t.lst eq2 fun z => z) fun z => z
      refine ⟨_, h4, _, h5, _, _, rfl, rfl, _, rfl, q, _, rfl, SqL.of eq4, fun p4 np4 => ?_⟩
      have kp4 : Kp No F4 (upd F4 p4 (.lst (cutV (rs.map V.str) (some ((kk : Int) + 1)) none))) := Kp.new np4
      have ep4 : upd F4 p4 (.lst (cutV (rs.map V.str) (some ((kk : Int) + 1)) none)) p4 = some (.lst ((rs.drop (kk + 1)).map V.str)) := by
        rw [upd_same, show ((kk : Int) + 1) = ((kk + 1 : Nat) : Int) by omega, cut_from, List.map_drop]
      generalize upd F4 p4 (.lst (cutV (rs.map V.str) (some ((kk : Int) + 1)) none)) = F5 at kp4 ep4 ⊢
      refine ⟨p3, p4, _, _, rfl, rfl, kp4.t.lst ep3 (fun z => z), ep4, by rw [sizeLine_eq, List.length_append, List.length_map, List.length_map, List.length_take, List.length_drop, List.length_singleton]; omega, fun p5 np5 => ?_⟩
      have kA : Kp No F2 (upd F5 p5 (.lst ((rs.take kk).map V.str ++ [.str mid] ++ (rs.drop (kk + 1)).map V.str))) := ((kp2.trans kp3 fun _ z => False.elim z).trans kp4 fun _ z => False.elim z).trans (Kp.new np5) fun _ z => False.elim z
      refine ⟨"\n", p5, rs.take kk ++ [mid] ++ rs.drop (kk + 1), rfl, rfl, .inl (SqL.of (by rw [upd_same, List.map_append, List.map_append]; rfl)), by rw [nl1]; exact szm mid (by omega), ?_⟩
      exact put (p1 := p1) (pm := p1) (p2 := p1) (p3 := p1) (p4 := p1) (B2'.kt kA.t fun _ z => False.elim z) (((kG.trans kp1 fun _ z => False.elim z).trans kF2 fun _ z => .inl z).trans kA fun _ z => False.elim z) sm lm
    by_cases h2 : d7 = 2
    · rw [show decide (V.int ((d7 : Nat) : Int) = V.int 2) = true from decide_eq_true (by rw [h2]; rfl)]
      refine iteT ⟨_, rfl, _, rfl, q, _, (kk : Int), .str rk, rfl, rfl, SqL.of e4, ark, ⟨_, rfl⟩, rk, " ", rfl, rfl, by decide +kernel, by rw [len_tl]; exact Nat.le_trans (Nat.add_le_add_right lrk 2) (by decide), ?_⟩
      have lw : ∀ y ∈ Txt.split rk " ", Sg y := fun y hy => sepS.sg hy srk
      have nws := sepS.some rk
      have wws := sepS.wt rk
      have lws := sepS.len rk
      generalize Txt.split rk " " = ws at lw nws wws lws ⊢
      refine fun q6 nq6 => ?_
      have k6 : Kp No G4 (upd G4 q6 (.lst (ws.map V.str))) := Kp.new nq6
      have e6 : upd G4 q6 (.lst (ws.map V.str)) q6 = some (.lst (ws.map V.str)) := upd_same
      have nB6 : ¬ bF bx bi q6 := fun z => by
        obtain ⟨ns, st, h1, h2, _⟩ := B4.ex
        rcases z with z | z <;> rw [z] at nq6
        · rw [h1] at nq6; cases nq6
        · rw [h2] at nq6; cases nq6
      have nq6q : q ≠ q6 := fun z => by rw [← z, e4] at nq6; cases nq6
      generalize upd G4 q6 (.lst (ws.map V.str)) = G5 at k6 e6 ⊢
      refine ⟨sz 16 (by decide), fun qo nqo => ?_⟩
      have ko : Kp No G5 (upd G5 qo (.lst ((oddL.take 16).map V.str))) := Kp.new nqo
      have eo : upd G5 qo (.lst ((oddL.take 16).map V.str)) qo = some (.lst ((oddL.take 16).map V.str)) := upd_same
      show gName 7 (.ref qo) _ (upd G5 qo (.lst ((oddL.take 16).map V.str))) _
      generalize upd G5 qo (.lst ((oddL.take 16).map V.str)) = G6 at ko eo ⊢
      refine ⟨_, rfl, sz 5 (by decide), fun q5 nq5 => ?_⟩
      have k5 : Kp No G6 (upd G6 q5 (.lst ((oddL.drop 16).map V.str))) := Kp.new nq5
      have e5 : upd G6 q5 (.lst ((oddL.drop 16).map V.str)) q5 = some (.lst ((oddL.drop 16).map V.str)) := upd_same
      show rCat _ _ (upd G6 q5 (.lst ((oddL.drop 16).map V.str))) _
      generalize upd G6 q5 (.lst ((oddL.drop 16).map V.str)) = G7 at k5 e5 ⊢
      refine ⟨qo, q5, _, _, rfl, rfl, k5.t.lst eo (fun z => z), e5, by rw [sizeLine_eq]; decide, fun qc nqc => ?_⟩
      have kc : Kp No G7 (upd G7 qc (.lst ((oddL.take 16).map V.str ++ (oddL.drop 16).map V.str))) := Kp.new nqc
      have ec : upd G7 qc (.lst ((oddL.take 16).map V.str ++ (oddL.drop 16).map V.str)) qc = some (.lst (oddL.map V.str)) := by rw [upd_same, ← List.map_append, List.take_append_drop]
      generalize upd G7 qc (.lst ((oddL.take 16).map V.str ++ (oddL.drop 16).map V.str)) = G8 at kc ec ⊢
      have k48 : Kp No G4 G8 := ((k6.trans ko fun _ z => False.elim z).trans k5 fun _ z => False.elim z).trans kc fun _ z => False.elim z
      have B8 := B4.kt k48.t fun _ z => False.elim z
      have e68 : G8 q6 = some (.lst (ws.map V.str)) := (((ko.trans k5 fun _ z => False.elim z).trans kc fun _ z => False.elim z)).t.lst e6 fun z => z
      have nBc : ¬ bF bx bi qc := fun z => by
        obtain ⟨ns, st, h1, h2, _⟩ := B8.ex
        rcases z with z | z <;> rw [z] at ec
        · rw [h1] at ec; injection ec with ec; injection ec with ec; exact absurd (congrArg List.length ec) (by simp [oddL])
        · rw [h2] at ec; injection ec with ec; injection ec with ec
          cases ns with
          | nil => cases ec
          | cons a b => injection ec with ec _; cases ec
      refine ⟨_, rfl, bx, bi, 21, rfl, B8, by decide, by decide, fun n21 G9 u0 u1 B9 k9 => ?_⟩
      obtain ⟨o21, rfl⟩ := Int.eq_ofNat_of_zero_le u0
      obtain ⟨od, hod⟩ : ∃ o, oddL[o21]? = some o := ⟨_, List.getElem?_eq_getElem (show o21 < oddL.length from by have : oddL.length = 21 := rfl; omega)⟩
      obtain ⟨lod, sod⟩ := oddL_ok od (List.mem_of_getElem? hod)
      have e69 := k9.t.lst e68 nB6
      refine ⟨qc, _, (o21 : Int), .str od, rfl, rfl, SqL.of (k9.t.lst ec nBc), atI_nat (by rw [List.getElem?_map, hod]; rfl), _, rfl, _, rfl, _, rfl, q6, _, rfl, .inl (SqL.of e69), bx, bi, _, rfl, B9, by rw [List.length_map]; have := List.length_pos_iff.mpr nws; omega, by rw [List.length_map]; omega, fun nw Ga v0 v1 Ba ka => ?_⟩
      obtain ⟨jw, rfl⟩ := Int.eq_ofNat_of_zero_le v0
      have hjw : jw < ws.length := by rw [List.length_map] at v1; omega
      have e6a := ka.t.lst e69 nB6
      refine ⟨q6, _, (jw : Int), jw, rfl, rfl, e6a, ixN_in (by omega) (by rw [List.length_map]; omega), ?_⟩
      have kSet : Kp (fun b => b = q6) Ga (upd Ga q6 (.lst ((ws.map V.str).set jw (.str od)))) := Kp.updL e6a rfl
      have eSet : upd Ga q6 (.lst ((ws.map V.str).set jw (.str od))) q6 = some (.lst ((ws.set jw od).map V.str)) := by rw [upd_same, List.map_set]
      generalize upd Ga q6 (.lst ((ws.map V.str).set jw (.str od))) = Gb at kSet eSet ⊢
      have B9b : BoxAt Gb bx bi := Ba.kt kSet.t fun b z => by rw [show b = q6 from z]; exact nB6
      have k4b : Kp (fun b => bF bx bi b ∨ b = q6) G4 Gb := (((k48.sub fun _ z => False.elim z).trans (k9.sub fun _ z => .inl z) fun b z => .inl z).trans (ka.sub fun _ z => .inl z) fun b z => .inl z).trans (kSet.sub fun _ z => .inr z) fun b z => .inl z
      have h6 : H q6 = none := k4.free nq6 fun z => absurd z nB6
      have kHb : Kp (bF bx bi) H Gb := k4.trans k4b fun b z => z.elim .inl fun z => .inr (by rw [show b = q6 from z]; exact h6)
      have eqb : Gb q = some (.lst (rs.map V.str)) := k4b.t.lst e4 fun z => z.elim nqB fun z => nq6q z
      have wset := Wt_set hjw od
      have lmid := join_len s1 (ws.set jw od)
      have smid : Sg (Txt.join " " (ws.set jw od)) := join_sg joinS fun p hp => (List.mem_or_eq_of_mem_set hp).elim (fun h => lw p h) fun h => by rw [h]; exact sod
      refine row eqb B9b kHb rfl rfl fun F1 Q1 kF hq => ?_
      have swt := sum_wt (ws.set jw od)
      exact ⟨⟨_, rfl⟩, _, rfl, " ", q6, ws.set jw od, rfl, rfl, .inl (SqL.of (kF.t.lst eSet fun z => z)), by rw [sp1]; omega, hq F1 _ (by omega) smid (Kp.refl _ _) (B9b.kt kF.t fun _ z => False.elim z)⟩
    rw [show decide (V.int ((d7 : Nat) : Int) = V.int 2) = false from decide_eq_false fun z => h2 (by injection z with z; omega)]
    refine iteF ⟨_, rfl, rfl, _, rfl, ?_⟩
    by_cases h3 : d7 = 3
    · rw [show decide (V.int ((d7 : Nat) : Int) = V.int 3) = true from decide_eq_true (by rw [h3]; rfl)]
      refine iteT ⟨sz 8 (by decide), fun qm nqm => ?_⟩
      have km : Kp No G4 (upd G4 qm (.lst (moreL.map V.str))) := Kp.new nqm
      have em : upd G4 qm (.lst (moreL.map V.str)) qm = some (.lst (moreL.map V.str)) := upd_same
      show gName 8 (.ref qm) _ (upd G4 qm (.lst (moreL.map V.str))) _
      have nqmB : ¬ bF bx bi qm := fun z => by
        obtain ⟨ns, st, h1, h2, _⟩ := B4.ex
        rcases z with z | z <;> rw [z] at nqm
        · rw [h1] at nqm; cases nqm
        · rw [h2] at nqm; cases nqm
      generalize upd G4 qm (.lst (moreL.map V.str)) = G5 at km em ⊢
      have B5 := B4.kt km.t fun _ z => False.elim z
      have e5 := km.t.lst e4 fun z => z
      have k5 : Kp (bF bx bi) H G5 := k4.trans km fun _ z => False.elim z
      refine row e5 B5 k5 rfl rfl fun F1 Q1 kF hq => ?_
      have eqF := kF.t.lst e5 fun z => z
      have emF := kF.t.lst em fun z => z
      refine ⟨_, rfl, _, rfl, q, _, (kk : Int), .str rk, rfl, rfl, SqL.of eqF, ark, _, rfl, _, rfl, bx, bi, 8, rfl, B5.kt kF.t fun _ z => False.elim z, by decide, by decide, fun n8 F2 u0 u1 B2' k2' => ?_⟩
      obtain ⟨o8, rfl⟩ := Int.eq_ofNat_of_zero_le u0
      obtain ⟨md, hmd⟩ : ∃ o, moreL[o8]? = some o := ⟨_, List.getElem?_eq_getElem (show o8 < moreL.length from by have : moreL.length = 8 := rfl; omega)⟩
      obtain ⟨lmd, smd⟩ := moreL_ok md (List.mem_of_getElem? hmd)
      refine ⟨qm, _, (o8 : Int), .str md, rfl, rfl, SqL.of (k2'.t.lst emF nqmB), atI_nat (by rw [List.getElem?_map, hmd]; rfl), rk, md, rfl, rfl, by rw [sizeLine_eq, len_tl, len_tl]; omega, ?_⟩
      exact hq F2 _ (by rw [tl_append, List.length_append]; omega) (sg_app srk smd) k2' B2'
    rw [show decide (V.int ((d7 : Nat) : Int) = V.int 3) = false from decide_eq_false fun z => h3 (by injection z with z; omega)]
    refine iteF ?_
    obtain ⟨sl1, sl2⟩ := signL_len
    have szl : signL.length ≤ sizeLine := by rw [len_tl, sizeLine_eq]; omega
    refine ⟨_, rfl, _, rfl, _, rfl, signL, rfl, szl, bx, bi, _, rfl, B4, by rw [len_tl]; omega, by rw [len_tl]; omega, fun m1 G5 u0 u1 B5 k5 => ?_⟩
    obtain ⟨o1, rfl⟩ := Int.eq_ofNat_of_zero_le u0
    obtain ⟨c1', at1, sg1⟩ := sign_at (n := o1) (by rw [len_tl] at u1; omega)
    refine ⟨signL, (o1 : Int), c1', rfl, rfl, szl, at1, _, rfl, _, rfl, bx, bi, 15, rfl, B5, by decide, by decide, fun m2 G6 v0 v1 B6 k6 => ?_⟩
    obtain ⟨o2, rfl⟩ := Int.eq_ofNat_of_zero_le v0
    obtain ⟨c2', at2, sg2⟩ := sign_at (n := o2) (by omega)
    refine ⟨signL, (o2 : Int), c2', rfl, rfl, szl, at2, sz 3 (by decide), fun ql nql => ?_⟩
    have kl : Kp No G6 (upd G6 ql (.lst [.str ⟨#[c1']⟩, .str "", .str ⟨#[c2']⟩])) := Kp.new nql
    have el : upd G6 ql (.lst [.str ⟨#[c1']⟩, .str "", .str ⟨#[c2']⟩]) ql = some (.lst [.str ⟨#[c1']⟩, .str "", .str ⟨#[c2']⟩]) := upd_same
    generalize upd G6 ql (.lst [.str ⟨#[c1']⟩, .str "", .str ⟨#[c2']⟩]) = G7 at kl el ⊢
    have B7 := B6.kt kl.t fun _ z => False.elim z
    have k7 : Kp (bF bx bi) H G7 := ((k4.trans k5 fun _ z => .inl z).trans k6 fun _ z => .inl z).trans kl fun _ z => False.elim z
    obtain ⟨sg, hat, ls, ss⟩ : ∃ sg : Str, atI [V.str ⟨#[c1']⟩, V.str "", V.str ⟨#[c2']⟩] ((d7 : Int) - 4) = some (.str sg) ∧ (tl sg).length ≤ 1 ∧ Sg sg := by
      have : d7 = 4 ∨ d7 = 5 ∨ d7 = 6 := by omega
      rcases this with rfl | rfl | rfl
      · exact ⟨_, atI_nat (j := 0) rfl, Nat.le_refl _, sg1⟩
      · exact ⟨"", atI_nat (j := 1) rfl, by decide +kernel, sgB_ok (by decide +kernel)⟩
      · exact ⟨_, atI_nat (j := 2) rfl, Nat.le_refl _, sg2⟩
    refine ⟨_, rfl, _, _, rfl, rfl, ql, _, _, .str sg, rfl, rfl, SqL.of el, hat, ?_⟩
    have t1 := cutS_tl x none (some (pl : Int))
    refine ⟨_, rfl, _, rfl, _, rfl, x, rfl, hszs, _, rfl, _, _, rfl, rfl, by rw [sizeLine_eq, len_tl, len_tl]; omega, _, rfl, _, rfl, _, rfl, _, _, rfl, rfl, .inr ⟨_, rfl, _, _, rfl, rfl, _, rfl, x, rfl, hszs, _, _, rfl, rfl, ?_, k _ _ B7 k7 ?_ ?_⟩⟩
    · have t2 := cutS_tl x (some ((pl : Int) + if decide ((4 : Int) < (d7 : Int)) = true then 1 else 0)) none
      rw [sizeLine_eq, len_tl, len_tl, tl_append, List.length_append]
      omega
    · have t2 := cutS_tl x (some ((pl : Int) + if decide ((4 : Int) < (d7 : Int)) = true then 1 else 0)) none
      rw [tl_append, tl_append, List.length_append, List.length_append]
      omega
    · exact sg_app (sg_app (cutS_sg hsg _ _) ss) (cutS_sg hsg _ _)
end
end S02

set_option Elab.async false
set_option linter.all false
set_option maxRecDepth 100000
set_option maxHeartbeats 4000000
/-! ### wrong rows put in -/
namespace S02
open PySem PySem.Spec PyProof.Rows L2 K5 SupX GenX TL
def someL : List Str := ["0 1: drop 32", "9 1: drop 0", "4 12: drop 3", "7 2: put 0 1000 0", "3 3: if 4 1000", "2 2: add 5 1000", "1 1: drop 1; drop 2; drop 3; drop 4; drop 5", "2 0: put 31 999 1001", "0 9: drop 1; drop 99"]
theorem someL_ok : ∀ p ∈ someL, (tl p).length ≤ 50 ∧ Sg p := fun p hp => by
  have h : (someL.all fun p => decide ((tl p).length ≤ 50) && sgB p) = true := by decide +kernel
  have := List.all_eq_true.mp h p hp
  rw [Bool.and_eq_true] at this
  exact ⟨of_decide_eq_true this.1, sgB_ok this.2⟩
theorem nbox {G : Hp} {bx bi p : Addr} (B : BoxAt G bx bi) (h : G p = none) : ¬ bF bx bi p := fun z => by
  obtain ⟨ns, st, h1, h2, _⟩ := B.ex
  rcases z with z | z <;> rw [z] at h
  · rw [h1] at h; cases h
  · rw [h2] at h; cases h
section
variable {P : Program} {w : World} {K : PySem.W.Frag} {mg : Str → Option Value} {base : Heap} {A : Ad} {B fR fI pR pL : Addr}
abbrev Nscwrong : List Str := ["_law_box", "_law_text_here", "_law_rows", "_law_some", "_law_turn", "_law_k"]
theorem scwrong : FnScope Nscwrong ["_law_box", "_law_text_here"] (defScope s_wrong) := ⟨rfl, rfl, rfl, by decide +kernel, rfl, by decide +kernel, by decide +kernel⟩
def spWrong : Sp := fun vs H Q _ => ∃ (bx bi : Addr) (x : Str), vs = [.ref bx, .str x] ∧ BoxAt H bx bi ∧ (tl x).length ≤ 40000 ∧ Sg x ∧ ∀ G y, BoxAt G bx bi → Kp (bF bx bi) H G → (tl y).length ≤ (tl x).length + 200 → Sg y → Q (.str y) G
theorem ok_wrong (T : Txt K mg A) : ∃ fd, FnOk P w K mg base CX0 2 (A.d 51) fd ["_law_box", "_law_text_here"] spWrong ∧ Binds K fd ["_law_box", "_law_text_here"] [] := by
  obtain ⟨fd, F⟩ := T.wrong.fn
  obtain ⟨fd1, Gtake, btake⟩ := ok_take (P := P) (w := w) (base := base) T
  refine ⟨fd, F.ok scwrong (fun vs H Q E h => ?_) (fun cdv Ar outer s0 H vs Q E hr h => ?_), F.binds fun _ _ _ _ _ _ us hl => match us, hl with | [_, _], _ => rfl⟩
  · obtain ⟨bx, bi, x, rfl, _⟩ := h
    rfl
  · obtain ⟨bx, bi, x, rfl, BX, hsz, hsg, k⟩ := h
    have hu := hu_of hr
    refine ⟨_, (pss_cons (ps_set (i := 2) scwrong.nd rfl (Or.inl rfl) (pe_ifExp (pt_cmpR op_ne (pv 1) pe_str (nomark _)) (pe_split (pv 1) pe_str) (pe_lst pa_nil)))
      (pss_cons (ps_set (i := 3) scwrong.nd rfl (Or.inl rfl) (pe_lst (pa_cons pe_str (pa_cons pe_str (pa_cons pe_str (pa_cons pe_str (pa_cons pe_str (pa_cons pe_str pa_nil))))))))
      (pss_cons (ps_set (i := 3) scwrong.nd rfl (Or.inl rfl) (pe_op op_cat (pv 3) (pe_lst (pa_cons pe_str (pa_cons pe_str (pa_cons pe_str pa_nil))))))
      (pss_cons (ps_for PassesOwn.never rfl (pi_range1 (by rfl) T.range (pa_cons (pe_op op_add pe_int (pe_call Gtake (hr.mono (by first | decide | omega)) rfl T.take.at_ T.take.kp btake .nil pass0 (pa_cons (pv 0) (pa_cons pe_int pa_nil)))) pa_nil)) (pg_name (i := 4) scwrong.nd rfl (Or.inl rfl))
        (pss_cons (ps_set (i := 5) scwrong.nd rfl (Or.inl rfl) (pe_call Gtake (hr.mono (by first | decide | omega)) rfl T.take.at_ T.take.kp btake .nil pass0 (pa_cons (pv 0) (pa_cons (pe_op op_add (pe_callB call_len_seq (by rfl) T.len PySem.boot_len (pa_cons (pv 2) pa_nil)) pe_int) pa_nil))))
        (pss_one (ps_set (i := 2) scwrong.nd rfl (Or.inl rfl) (pe_op op_cat (pe_op op_cat (pe_slice sl_list (pv 2) po_none (po_some (pv 5))) (pe_lst (pa_cons (pe_ix ix_list (pv 3) (pe_call Gtake (hr.mono (by first | decide | omega)) rfl T.take.at_ T.take.kp btake .nil pass0 (pa_cons (pv 0) (pa_cons pe_int pa_nil))) (fun _ _ => rfl)) pa_nil))) (pe_slice sl_list (pv 2) (po_some (pv 5)) po_none))))))
      (pss_one (ps_ret (pe_join pe_str (pv 2)))))))), ?_⟩
    refine ⟨_, rfl, rfl, _, rfl, ?_⟩
    by_cases hx : x = ""
    · rw [show (!decide (V.str x = V.str "")) = false from by rw [hx]; decide +kernel]
      refine iteF ⟨sz 0 (by decide), fun q nq => ?_⟩
      have kG0 : Kp (bF bx bi) H (upd H q (.lst [])) := Kp.new nq
      have BG : BoxAt (upd H q (.lst [])) bx bi := BX.kt (Kp.t (Kp.new (F := No) nq)) (fun _ z => False.elim z)
      have eq0 : upd H q (.lst []) q = some (.lst (([] : List Str).map V.str)) := upd_same
      have nqB := nbox BX nq
      generalize upd H q (.lst []) = G0 at kG0 BG eq0 ⊢
      have lp0 : ∀ p ∈ ([] : List Str), Sg p := fun p hp => by cases hp
      have w0 : Wt ([] : List Str) = 0 := rfl
      have joinN : Sg ("\n" : Str) := sgB_ok (by decide +kernel)
      have n1 : (tl ("\n" : Str)).length ≤ 1 := by decide +kernel
      have nl1 : ("\n" : Str).length = 1 := by decide +kernel
      refine ⟨sz 6 (by decide), fun s6 ns6 => ?_⟩
      have k6 : Kp No G0 (upd G0 s6 (.lst ((someL.take 6).map V.str))) := Kp.new ns6
      have e6 : upd G0 s6 (.lst ((someL.take 6).map V.str)) s6 = some (.lst ((someL.take 6).map V.str)) := upd_same
      show gName 3 (.ref s6) _ (upd G0 s6 (.lst ((someL.take 6).map V.str))) _
      generalize upd G0 s6 (.lst ((someL.take 6).map V.str)) = F1 at k6 e6 ⊢
      refine ⟨_, rfl, sz 3 (by decide), fun s3 ns3 => ?_⟩
      have k3 : Kp No F1 (upd F1 s3 (.lst ((someL.drop 6).map V.str))) := Kp.new ns3
      have e3 : upd F1 s3 (.lst ((someL.drop 6).map V.str)) s3 = some (.lst ((someL.drop 6).map V.str)) := upd_same
      show rCat _ _ (upd F1 s3 (.lst ((someL.drop 6).map V.str))) _
      generalize upd F1 s3 (.lst ((someL.drop 6).map V.str)) = F2 at k3 e3 ⊢
      refine ⟨s6, s3, _, _, rfl, rfl, k3.t.lst e6 (fun z => z), e3, by rw [sizeLine_eq]; decide, fun so nso => ?_⟩
      have ko : Kp No F2 (upd F2 so (.lst ((someL.take 6).map V.str ++ (someL.drop 6).map V.str))) := Kp.new nso
      have eo : upd F2 so (.lst ((someL.take 6).map V.str ++ (someL.drop 6).map V.str)) so = some (.lst (someL.map V.str)) := by rw [upd_same, ← List.map_append, List.take_append_drop]
      have kGo : Kp No G0 (upd F2 so (.lst ((someL.take 6).map V.str ++ (someL.drop 6).map V.str))) := (k6.trans k3 fun _ z => False.elim z).trans ko fun _ z => False.elim z
      have noB : ¬ bF bx bi so := nbox (BG.kt (k6.trans k3 fun _ z => False.elim z).t fun _ z => False.elim z) nso
      generalize upd F2 so (.lst ((someL.take 6).map V.str ++ (someL.drop 6).map V.str)) = F3 at kGo eo ⊢
      have B3 := BG.kt kGo.t fun _ z => False.elim z
      refine ⟨_, rfl, bx, bi, 2, rfl, B3, by decide, by decide, fun n2 F4 a0 a1 B4 k4 => ?_⟩
      obtain ⟨o2, rfl⟩ := Int.eq_ofNat_of_zero_le a0
      refine ⟨_, _, rfl, rfl, _, rfl, by omega, by omega, ?_⟩
      rw [show ((2 : Int) + (o2 : Int)).toNat = 2 + o2 by omega]
      refine for_range (lo := 0) (fun i σ J => (∃ (q' : Addr) (o4 o5 : Option V), σ = [some (.ref bx), some (.str x), some (.ref q'), some (.ref so), o4, o5] ∧ ¬ bF bx bi q' ∧ ∃ rs' : List Str, J q' = some (.lst (rs'.map V.str)) ∧ (∀ p ∈ rs', Sg p) ∧ Wt rs' ≤ (tl x).length + 1 + i * 51 ∧ rs'.length ≤ 40001 + i) ∧ BoxAt J bx bi ∧ Kp (bF bx bi) H J ∧ J so = some (.lst (someL.map V.str)))
        ⟨⟨q, _, _, rfl, nqB, [], k4.t.lst (kGo.t.lst eq0 fun z => z) nqB, lp0, by rw [w0]; omega, by simp⟩, B4, (kG0.trans kGo fun _ z => False.elim z).trans k4 fun _ z => .inl z, k4.t.lst eo noB⟩ ?_ ?_
      · rintro i σ J hi ⟨⟨q', o4, o5, rfl, nq', rs', eq', lp', w', l'⟩, BJ, kJ, eoJ⟩
        have hi3 : i ≤ 2 := by omega
        refine ⟨_, rfl, _, rfl, q', _, rfl, .inl (SqL.of eq'), _, _, rfl, rfl, bx, bi, _, rfl, BJ, by omega, by rw [List.length_map]; omega, fun nk J1 c0 c1 B1 k1 => ?_⟩
        obtain ⟨kk, rfl⟩ := Int.eq_ofNat_of_zero_le c0
        have eq1 := k1.t.lst eq' nq'
        refine ⟨_, rfl, _, rfl, _, rfl, q', _, rfl, SqL.of eq1, fun p1 np1 => ?_⟩
        have kp1 : Kp No J1 (upd J1 p1 (.lst (cutV (rs'.map V.str) none (some ((kk : Nat) : Int))))) := Kp.new np1
        have ep1 : upd J1 p1 (.lst (cutV (rs'.map V.str) none (some ((kk : Nat) : Int)))) p1 = some (.lst ((rs'.take kk).map V.str)) := by rw [upd_same, cut_to, List.map_take]
        have nb1 := nbox B1 np1
        generalize upd J1 p1 (.lst (cutV (rs'.map V.str) none (some ((kk : Nat) : Int)))) = J2 at kp1 ep1 ⊢
        refine ⟨_, rfl, _, rfl, bx, bi, 9, rfl, B1.kt kp1.t fun _ z => False.elim z, by decide, by decide, fun n9 J3 u0 u1 B3' k3' => ?_⟩
        obtain ⟨o9, rfl⟩ := Int.eq_ofNat_of_zero_le u0
        obtain ⟨md, hmd⟩ : ∃ o, someL[o9]? = some o := ⟨_, List.getElem?_eq_getElem (show o9 < someL.length from by have : someL.length = 9 := rfl; omega)⟩
        obtain ⟨lmd, smd⟩ := someL_ok md (List.mem_of_getElem? hmd)
        have eo3 := k3'.t.lst (kp1.t.lst (k1.t.lst eoJ noB) fun z => z) noB
        refine ⟨so, _, (o9 : Int), .str md, rfl, rfl, SqL.of eo3, atI_nat (by rw [List.getElem?_map, hmd]; rfl), sz 1 (by decide), fun p2 np2 => ?_⟩
        have kp2 : Kp No J3 (upd J3 p2 (.lst [.str md])) := Kp.new np2
        have ep2 : upd J3 p2 (.lst [.str md]) p2 = some (.lst [.str md]) := upd_same
        generalize upd J3 p2 (.lst [.str md]) = J4 at kp2 ep2 ⊢
        have ep1' := kp2.t.lst (k3'.t.lst ep1 nb1) fun z => z
        refine ⟨p1, p2, _, _, rfl, rfl, ep1', ep2, by rw [sizeLine_eq, List.length_map, List.length_take, List.length_singleton]; omega, fun p3 np3 => ?_⟩
        have kp3 : Kp No J4 (upd J4 p3 (.lst ((rs'.take kk).map V.str ++ [.str md]))) := Kp.new np3
        have ep3 : upd J4 p3 (.lst ((rs'.take kk).map V.str ++ [.str md])) p3 = some (.lst ((rs'.take kk).map V.str ++ [.str md])) := upd_same
        generalize upd J4 p3 (.lst ((rs'.take kk).map V.str ++ [.str md])) = J5 at kp3 ep3 ⊢
        have eq5 := kp3.t.lst (kp2.t.lst (k3'.t.lst (kp1.t.lst eq1 fun z => z) nq') fun z => z) fun z => z
        refine ⟨_, rfl, _, rfl, _, rfl, q', _, rfl, SqL.of eq5, fun p4 np4 => ?_⟩
        have kp4 : Kp No J5 (upd J5 p4 (.lst (cutV (rs'.map V.str) (some ((kk : Nat) : Int)) none))) := Kp.new np4
        have ep4 : upd J5 p4 (.lst (cutV (rs'.map V.str) (some ((kk : Nat) : Int)) none)) p4 = some (.lst ((rs'.drop kk).map V.str)) := by rw [upd_same, cut_from, List.map_drop]
        generalize upd J5 p4 (.lst (cutV (rs'.map V.str) (some ((kk : Nat) : Int)) none)) = J6 at kp4 ep4 ⊢
        refine ⟨p3, p4, _, _, rfl, rfl, kp4.t.lst ep3 (fun z => z), ep4, by rw [sizeLine_eq, List.length_append, List.length_map, List.length_map, List.length_take, List.length_drop, List.length_singleton]; omega, fun p5 np5 => ?_⟩
        have k36 : Kp No J3 J6 := (kp2.trans kp3 fun _ z => False.elim z).trans kp4 fun _ z => False.elim z
        have B6 := B3'.kt k36.t fun _ z => False.elim z
        have kp5 : Kp No J6 (upd J6 p5 (.lst ((rs'.take kk).map V.str ++ [.str md] ++ (rs'.drop kk).map V.str))) := Kp.new np5
        have w5 := Wt_mid rs' kk kk [md]
        have w6 := Wt_cut rs' kk
        rw [Wt_one] at w5
        refine ⟨⟨p5, _, _, rfl, nbox B6 np5, rs'.take kk ++ [md] ++ rs'.drop kk, by rw [upd_same, List.map_append, List.map_append]; rfl, mem_sub lp' kk kk fun p hp => (by rw [List.mem_singleton.mp hp]; exact smd), by omega, by rw [List.length_append, List.length_append, List.length_take, List.length_drop, List.length_singleton]; omega⟩, B6.kt kp5.t fun _ z => False.elim z, ((((kJ.trans k1 fun _ z => .inl z).trans kp1 fun _ z => False.elim z).trans k3' fun _ z => .inl z).trans k36 fun _ z => False.elim z).trans kp5 fun _ z => False.elim z, kp5.t.lst (k36.t.lst eo3 fun z => z) fun z => z⟩
      · rintro σ J ⟨⟨q', o4, o5, rfl, nq', rs', eq', lp', w', l'⟩, BJ, kJ, eoJ⟩
        have sw := sum_wt rs'
        have jl := join_len n1 rs'
        exact ⟨⟨_, rfl⟩, _, rfl, "\n", q', rs', rfl, rfl, .inl (SqL.of eq'), by rw [nl1]; omega, k _ _ BJ kJ (by omega) (join_sg joinN lp')⟩
    · rw [show (!decide (V.str x = V.str "")) = true from by rw [decide_eq_false fun z => hx (by injection z)]; rfl]
      refine iteT ⟨_, rfl, ⟨_, rfl⟩, x, "\n", rfl, rfl, by decide +kernel, by rw [len_tl]; exact Nat.le_trans (Nat.add_le_add_right hsz 2) (by decide), ?_⟩
      have lp0 : ∀ y ∈ Txt.split x "\n", Sg y := fun y hy => sepN.sg hy hsg
      have wrs := sepN.wt x
      have lrs := sepN.len x
      generalize Txt.split x "\n" = rs at lp0 wrs lrs ⊢
      refine fun q nq => ?_
      have kG0 : Kp (bF bx bi) H (upd H q (.lst (rs.map V.str))) := Kp.new nq
      have BG : BoxAt (upd H q (.lst (rs.map V.str))) bx bi := BX.kt (Kp.t (Kp.new (F := No) nq)) (fun _ z => False.elim z)
      have eq0 : upd H q (.lst (rs.map V.str)) q = some (.lst (rs.map V.str)) := upd_same
      have nqB := nbox BX nq
      generalize upd H q (.lst (rs.map V.str)) = G0 at kG0 BG eq0 ⊢
      have joinN : Sg ("\n" : Str) := sgB_ok (by decide +kernel)
      have n1 : (tl ("\n" : Str)).length ≤ 1 := by decide +kernel
      have nl1 : ("\n" : Str).length = 1 := by decide +kernel
      refine ⟨sz 6 (by decide), fun s6 ns6 => ?_⟩
      have k6 : Kp No G0 (upd G0 s6 (.lst ((someL.take 6).map V.str))) := Kp.new ns6
      have e6 : upd G0 s6 (.lst ((someL.take 6).map V.str)) s6 = some (.lst ((someL.take 6).map V.str)) := upd_same
      show gName 3 (.ref s6) _ (upd G0 s6 (.lst ((someL.take 6).map V.str))) _
      generalize upd G0 s6 (.lst ((someL.take 6).map V.str)) = F1 at k6 e6 ⊢
      refine ⟨_, rfl, sz 3 (by decide), fun s3 ns3 => ?_⟩
      have k3 : Kp No F1 (upd F1 s3 (.lst ((someL.drop 6).map V.str))) := Kp.new ns3
      have e3 : upd F1 s3 (.lst ((someL.drop 6).map V.str)) s3 = some (.lst ((someL.drop 6).map V.str)) := upd_same
      show rCat _ _ (upd F1 s3 (.lst ((someL.drop 6).map V.str))) _
      generalize upd F1 s3 (.lst ((someL.drop 6).map V.str)) = F2 at k3 e3 ⊢
      refine ⟨s6, s3, _, _, rfl, rfl, k3.t.lst e6 (fun z => z), e3, by rw [sizeLine_eq]; decide, fun so nso => ?_⟩
      have ko : Kp No F2 (upd F2 so (.lst ((someL.take 6).map V.str ++ (someL.drop 6).map V.str))) := Kp.new nso
      have eo : upd F2 so (.lst ((someL.take 6).map V.str ++ (someL.drop 6).map V.str)) so = some (.lst (someL.map V.str)) := by rw [upd_same, ← List.map_append, List.take_append_drop]
      have kGo : Kp No G0 (upd F2 so (.lst ((someL.take 6).map V.str ++ (someL.drop 6).map V.str))) := (k6.trans k3 fun _ z => False.elim z).trans ko fun _ z => False.elim z
      have noB : ¬ bF bx bi so := nbox (BG.kt (k6.trans k3 fun _ z => False.elim z).t fun _ z => False.elim z) nso
      generalize upd F2 so (.lst ((someL.take 6).map V.str ++ (someL.drop 6).map V.str)) = F3 at kGo eo ⊢
      have B3 := BG.kt kGo.t fun _ z => False.elim z
      refine ⟨_, rfl, bx, bi, 2, rfl, B3, by decide, by decide, fun n2 F4 a0 a1 B4 k4 => ?_⟩
      obtain ⟨o2, rfl⟩ := Int.eq_ofNat_of_zero_le a0
      refine ⟨_, _, rfl, rfl, _, rfl, by omega, by omega, ?_⟩
      rw [show ((2 : Int) + (o2 : Int)).toNat = 2 + o2 by omega]
      refine for_range (lo := 0) (fun i σ J => (∃ (q' : Addr) (o4 o5 : Option V), σ = [some (.ref bx), some (.str x), some (.ref q'), some (.ref so), o4, o5] ∧ ¬ bF bx bi q' ∧ ∃ rs' : List Str, J q' = some (.lst (rs'.map V.str)) ∧ (∀ p ∈ rs', Sg p) ∧ Wt rs' ≤ (tl x).length + 1 + i * 51 ∧ rs'.length ≤ 40001 + i) ∧ BoxAt J bx bi ∧ Kp (bF bx bi) H J ∧ J so = some (.lst (someL.map V.str)))
        ⟨⟨q, _, _, rfl, nqB, rs, k4.t.lst (kGo.t.lst eq0 fun z => z) nqB, lp0, by omega, by omega⟩, B4, (kG0.trans kGo fun _ z => False.elim z).trans k4 fun _ z => .inl z, k4.t.lst eo noB⟩ ?_ ?_
      · rintro i σ J hi ⟨⟨q', o4, o5, rfl, nq', rs', eq', lp', w', l'⟩, BJ, kJ, eoJ⟩
        have hi3 : i ≤ 2 := by omega
        refine ⟨_, rfl, _, rfl, q', _, rfl, .inl (SqL.of eq'), _, _, rfl, rfl, bx, bi, _, rfl, BJ, by omega, by rw [List.length_map]; omega, fun nk J1 c0 c1 B1 k1 => ?_⟩
        obtain ⟨kk, rfl⟩ := Int.eq_ofNat_of_zero_le c0
        have eq1 := k1.t.lst eq' nq'
        refine ⟨_, rfl, _, rfl, _, rfl, q', _, rfl, SqL.of eq1, fun p1 np1 => ?_⟩
        have kp1 : Kp No J1 (upd J1 p1 (.lst (cutV (rs'.map V.str) none (some ((kk : Nat) : Int))))) := Kp.new np1
        have ep1 : upd J1 p1 (.lst (cutV (rs'.map V.str) none (some ((kk : Nat) : Int)))) p1 = some (.lst ((rs'.take kk).map V.str)) := by rw [upd_same, cut_to, List.map_take]
        have nb1 := nbox B1 np1
        generalize upd J1 p1 (.lst (cutV (rs'.map V.str) none (some ((kk : Nat) : Int)))) = J2 at kp1 ep1 ⊢
        refine ⟨_, rfl, _, rfl, bx, bi, 9, rfl, B1.kt kp1.t fun _ z => False.elim z, by decide, by decide, fun n9 J3 u0 u1 B3' k3' => ?_⟩
        obtain ⟨o9, rfl⟩ := Int.eq_ofNat_of_zero_le u0
        obtain ⟨md, hmd⟩ : ∃ o, someL[o9]? = some o := ⟨_, List.getElem?_eq_getElem (show o9 < someL.length from by have : someL.length = 9 := rfl; omega)⟩
        obtain ⟨lmd, smd⟩ := someL_ok md (List.mem_of_getElem? hmd)
        have eo3 := k3'.t.lst (kp1.t.lst (k1.t.lst eoJ noB) fun z => z) noB
        refine ⟨so, _, (o9 : Int), .str md, rfl, rfl, SqL.of eo3, atI_nat (by rw [List.getElem?_map, hmd]; rfl), sz 1 (by decide), fun p2 np2 => ?_⟩
        have kp2 : Kp No J3 (upd J3 p2 (.lst [.str md])) := Kp.new np2
        have ep2 : upd J3 p2 (.lst [.str md]) p2 = some (.lst [.str md]) := upd_same
        generalize upd J3 p2 (.lst [.str md]) = J4 at kp2 ep2 ⊢
        have ep1' := kp2.t.lst (k3'.t.lst ep1 nb1) fun z => z
        refine ⟨p1, p2, _, _, rfl, rfl, ep1', ep2, by rw [sizeLine_eq, List.length_map, List.length_take, List.length_singleton]; omega, fun p3 np3 => ?_⟩
        have kp3 : Kp No J4 (upd J4 p3 (.lst ((rs'.take kk).map V.str ++ [.str md]))) := Kp.new np3
        have ep3 : upd J4 p3 (.lst ((rs'.take kk).map V.str ++ [.str md])) p3 = some (.lst ((rs'.take kk).map V.str ++ [.str md])) := upd_same
        generalize upd J4 p3 (.lst ((rs'.take kk).map V.str ++ [.str md])) = J5 at kp3 ep3 ⊢
        have eq5 := kp3.t.lst (kp2.t.lst (k3'.t.lst (kp1.t.lst eq1 fun z => z) nq') fun z => z) fun z => z
        refine ⟨_, rfl, _, rfl, _, rfl, q', _, rfl, SqL.of eq5, fun p4 np4 => ?_⟩
        have kp4 : Kp No J5 (upd J5 p4 (.lst (cutV (rs'.map V.str) (some ((kk : Nat) : Int)) none))) := Kp.new np4
        have ep4 : upd J5 p4 (.lst (cutV (rs'.map V.str) (some ((kk : Nat) : Int)) none)) p4 = some (.lst ((rs'.drop kk).map V.str)) := by rw [upd_same, cut_from, List.map_drop]
        generalize upd J5 p4 (.lst (cutV (rs'.map V.str) (some ((kk : Nat) : Int)) none)) = J6 at kp4 ep4 ⊢
        refine ⟨p3, p4, _, _, rfl, rfl, kp4.t.lst ep3 (fun z => z), ep4, by rw [sizeLine_eq, List.length_append, List.length_map, List.length_map, List.length_take, List.length_drop, List.length_singleton]; omega, fun p5 np5 => ?_⟩
        have k36 : Kp No J3 J6 := (kp2.trans kp3 fun _ z => False.elim z).trans kp4 fun _ z => False.elim z
        have B6 := B3'.kt k36.t fun _ z => False.elim z
        have kp5 : Kp No J6 (upd J6 p5 (.lst ((rs'.take kk).map V.str ++ [.str md] ++ (rs'.drop kk).map V.str))) := Kp.new np5
        have w5 := Wt_mid rs' kk kk [md]
        have w6 := Wt_cut rs' kk
        rw [Wt_one] at w5
        refine ⟨⟨p5, _, _, rfl, nbox B6 np5, rs'.take kk ++ [md] ++ rs'.drop kk, by rw [upd_same, List.map_append, List.map_append]; rfl, mem_sub lp' kk kk fun p hp => (by rw [List.mem_singleton.mp hp]; exact smd), by omega, by rw [List.length_append, List.length_append, List.length_take, List.length_drop, List.length_singleton]; omega⟩, B6.kt kp5.t fun _ z => False.elim z, ((((kJ.trans k1 fun _ z => .inl z).trans kp1 fun _ z => False.elim z).trans k3' fun _ z => .inl z).trans k36 fun _ z => False.elim z).trans kp5 fun _ z => False.elim z, kp5.t.lst (k36.t.lst eo3 fun z => z) fun z => z⟩
      · rintro σ J ⟨⟨q', o4, o5, rfl, nq', rs', eq', lp', w', l'⟩, BJ, kJ, eoJ⟩
        have sw := sum_wt rs'
        have jl := join_len n1 rs'
        exact ⟨⟨_, rfl⟩, _, rfl, "\n", q', rs', rfl, rfl, .inl (SqL.of eq'), by rw [nl1]; omega, k _ _ BJ kJ (by omega) (join_sg joinN lp')⟩
end
end S02

set_option Elab.async false
set_option linter.all false
set_option maxRecDepth 100000
set_option maxHeartbeats 4000000
namespace S02
open PySem PySem.Spec PyProof.Rows L2 K5 SupX GenX TL
theorem chC_lt {c : Nat} (h : chC c ∨ c = 32) : c < 1114112 := by
  unfold chC at h
  omega
theorem row_lt {h x : Int} {ds : List Dd} {c : Nat} (hc : c ∈ tl (rowS h x ds)) : c < 1114112 := by
  unfold rowS at hc
  rw [tl_append, tl_append] at hc
  rcases List.mem_append.mp hc with hc | hc
  · rcases List.mem_append.mp hc with hc | hc
    · exact chC_lt (chC_head hc)
    · have : c ∈ [58, 32] := hc
      simp only [List.mem_cons, List.not_mem_nil, or_false] at this
      omega
  · unfold tailS at hc
    rw [tl_join] at hc
    rcases joinL_mem hc with hc | ⟨p, hp, hc⟩
    · have : c ∈ [59, 32] := hc
      simp only [List.mem_cons, List.not_mem_nil, or_false] at this
      omega
    · rw [List.map_map] at hp
      obtain ⟨d, _, rfl⟩ := List.mem_map.mp hp
      exact chC_lt (chC_deed hc)
theorem text_sg (gs : List Gd) : Sg (textS gs) := by
  have h : ∀ c ∈ tl (textS gs), c < 1114112 := fun c hc => by
    unfold textS at hc
    rw [tl_join] at hc
    rcases joinL_mem hc with hc | ⟨p, hp, hc⟩
    · have : c ∈ [10] := hc
      rw [List.mem_singleton.mp this]
      decide
    · unfold rowsS at hp
      rw [List.map_map] at hp
      obtain ⟨g, _, rfl⟩ := List.mem_map.mp hp
      exact row_lt hc
  exact h
section
variable {K : PySem.W.Frag} {H : Hp}
theorem leaf_dd (d : Dd) : ∀ v ∈ d.vs, leafV v = true := by
  have w : ∀ x : Option Int, leafV (oV x) = true := fun x => by cases x <;> rfl
  intro v hv
  cases d with
  | put k a l =>
    rcases List.mem_cons.mp hv with rfl | hv
    · exact (by decide +kernel : PyData.strOk "put" = true)
    rcases List.mem_cons.mp hv with rfl | hv
    · rfl
    rcases List.mem_cons.mp hv with rfl | hv
    · rfl
    rw [List.mem_singleton.mp hv]
    rfl
  | drop k =>
    rcases List.mem_cons.mp hv with rfl | hv
    · exact (by decide +kernel : PyData.strOk "drop" = true)
    rw [List.mem_singleton.mp hv]
    rfl
  | add k m =>
    rcases List.mem_cons.mp hv with rfl | hv
    · exact (by decide +kernel : PyData.strOk "add" = true)
    rcases List.mem_cons.mp hv with rfl | hv
    · rfl
    rw [List.mem_singleton.mp hv]
    rfl
  | iff k x =>
    rcases List.mem_cons.mp hv with rfl | hv
    · exact (by decide +kernel : PyData.strOk "if" = true)
    rcases List.mem_cons.mp hv with rfl | hv
    · rfl
    rw [List.mem_singleton.mp hv]
    exact w x
theorem len_dd (d : Dd) : d.vs.length ≤ 4 := by
  cases d with
  | put k w l => exact Nat.le_refl 4
  | drop k => exact (by decide : 2 ≤ 4)
  | add k m => exact (by decide : 3 ≤ 4)
  | iff k w => exact (by decide : 3 ≤ 4)
theorem al_dd {x y : V} {d : Dd} (h1 : DdAt H x d) (h2 : DdAt H y d) (n : Nat) : Al H (n + 2) x y := by
  obtain ⟨a, rfl, e1⟩ := h1
  obtain ⟨b, rfl, e2⟩ := h2
  refine .inr ⟨a, b, _, _, rfl, rfl, .inl ⟨e1, e2⟩, rfl, Int.lt_of_le_of_lt (by have := len_dd d; omega : (d.vs.length : Int) ≤ 4) (by decide), fun j x y hx hy => ?_⟩
  rw [hx] at hy
  cases hy
  exact Al.leaf (leaf_dd d _ (List.mem_of_getElem? hx))
theorem al_ds {x y : V} {ds : List Dd} (h1 : DsAt H x ds) (h2 : DsAt H y ds) (n : Nat) : Al H (n + 3) x y := by
  obtain ⟨a, xs, rfl, e1, p1, l1⟩ := h1
  obtain ⟨b, ys, rfl, e2, p2, _⟩ := h2
  refine .inr ⟨a, b, _, _, rfl, rfl, .inl ⟨e1, e2⟩, by rw [p1.length, p2.length], Int.lt_of_le_of_lt (by rw [p2.length]; omega : (ys.length : Int) ≤ 10000000) (by decide), fun j x y hx hy => ?_⟩
  obtain ⟨q, hq, g1⟩ := paired_at p1 hx
  obtain ⟨q2, hq2, g2⟩ := paired_at p2 hy
  rw [hq] at hq2
  cases hq2
  exact al_dd g1 g2 n
theorem al_gd {x y : V} {g : Gd} (h1 : GdAt H x g) (h2 : GdAt H y g) (n : Nat) : Al H (n + 4) x y := by
  obtain ⟨a, dv, rfl, e1, d1⟩ := h1
  obtain ⟨b, dw, rfl, e2, d2⟩ := h2
  refine .inr ⟨a, b, _, _, rfl, rfl, .inl ⟨e1, e2⟩, rfl, (by show ((3 : Nat) : Int) < 2 ^ 62; decide), fun j x y hx hy => ?_⟩
  match j, hx, hy with
  | 0, hx, hy => cases hx; cases hy; exact Al.leaf rfl
  | 1, hx, hy => cases hx; cases hy; exact Al.leaf rfl
  | 2, hx, hy => cases hx; cases hy; exact al_ds d1 d2 n
  | j + 3, hx, hy => simp at hx
theorem al_lst {α : Type} {R : V → α → Prop} {n : Nat} (hR : ∀ x y q, R x q → R y q → Al H n x y) {a b : Addr} {xs ys : List V} {qs : List α} (e1 : H a = some (.lst xs)) (e2 : H b = some (.lst ys)) (p1 : Paired R xs qs) (p2 : Paired R ys qs) (hl : qs.length ≤ 10000000) : Al H (n + 1) (.ref a) (.ref b) := by
  refine .inr ⟨a, b, xs, ys, rfl, rfl, .inr ⟨e1, e2⟩, by rw [p1.length, p2.length], Int.lt_of_le_of_lt (by rw [p2.length]; omega : (ys.length : Int) ≤ 10000000) (by decide), fun j x y hx hy => ?_⟩
  obtain ⟨q, hq, h1⟩ := paired_at p1 hx
  obtain ⟨q2, hq2, h2⟩ := paired_at p2 hy
  rw [hq] at hq2
  cases hq2
  exact hR x y q h1 h2
theorem al_tup {x y : V} {wd : Str} {n : Int} (hs : leafV (.str wd) = true) (h1 : TupAt H x wd n) (h2 : TupAt H y wd n) (k : Nat) : Al H (k + 2) x y := by
  obtain ⟨a, rfl, e1⟩ := h1
  obtain ⟨b, rfl, e2⟩ := h2
  refine .inr ⟨a, b, _, _, rfl, rfl, .inl ⟨e1, e2⟩, rfl, (by show ((2 : Nat) : Int) < 2 ^ 62; decide), fun j x y hx hy => ?_⟩
  match j, hx, hy with
  | 0, hx, hy => cases hx; cases hy; exact Al.leaf hs
  | 1, hx, hy => cases hx; cases hy; exact Al.leaf rfl
  | j + 2, hx, hy => simp at hx
theorem al_out {v w : V} {o : Out} (hl : ∀ gs, o = .ok gs → gs.length ≤ 10000000) (h1 : OutAt H v o) (h2 : OutAt H w o) : Al H 5 v w := by
  cases o with
  | ok gs =>
    obtain ⟨l, xs, rfl, e1, p1⟩ := h1
    obtain ⟨m, ys, rfl, e2, p2⟩ := h2
    exact al_lst (R := GdAt H) (n := 4) (fun x y q a b => al_gd a b 0) e1 e2 p1 p2 (hl gs rfl)
  | text i => exact al_tup (by decide +kernel) h1 h2 3
  | hand => exact al_tup (by decide +kernel) h1 h2 3
  | deal p => exact al_tup (by decide +kernel) h1 h2 3
end
theorem out_len {x : Str} {gs : List Gd} (h : outOf x = .ok gs) : gs.length ≤ (rowsOf x).length := by
  unfold outOf at h
  cases hR : rowsR (rowsOf x) with
  | inl i => rw [hR] at h; cases h
  | inr g =>
    rw [hR] at h
    have h : outG g = .ok gs := h
    have e : g = gs := by
      unfold outG at h
      split at h <;> first | (cases h; rfl) | cases h
    rw [← e, ← (rowsR_inr hR).length]
    exact Nat.le_refl _
theorem text_len12 {gs : List Gd} (h : ∀ g ∈ gs, GdW g) (l : gs.length ≤ 12) : (tl (textS gs)).length ≤ 1500 := by
  unfold textS
  rw [tl_join]
  refine Nat.le_trans (joinL_len (m := 117) fun p hp => ?_) ?_
  · obtain ⟨y, hy, rfl⟩ := List.mem_map.mp hp
    exact rows_len h y hy
  · rw [List.length_map]
    unfold rowsS
    rw [List.length_map, show (tl ("\n" : Str)).length = 1 by decide +kernel]
    exact Nat.le_trans (Nat.mul_le_mul_right _ l) (by decide)
/-- a text times a number -/
theorem op_mul_strI {X : Cx} : OpR X (binaryOp .Mult) (fun x y H Q => ∃ (z : Str) (n : Int), x = .str z ∧ y = .int n ∧ MulOk z n ∧ Q (.str (Txt.mul z n)) H) := by
  intro pins s σ H x y v u Q I rx ry h
  obtain ⟨z, n, rfl, rfl, hm, q⟩ := h
  obtain ⟨t, rfl⟩ := rx
  obtain ⟨t', rfl⟩ := ry
  exact SB.mul hm fun t' tk => ⟨.str (Txt.mul z n), H, I.tok _, ⟨_, rfl⟩, q⟩
end S02

set_option Elab.async false
set_option linter.all false
set_option maxRecDepth 100000
set_option maxHeartbeats 8000000
/-! ### the law -/
namespace S02
open PySem PySem.Spec PyProof.Rows L2 LamX K5 SupX GenX TL
def lawOdd : List Str := ["", " ", "\n", "0 1", "0 1:", "0 1: ", "0 1:drop 2", "0 1: drop 2\n", "0 1: if 2 -", "0 1: add 2 -5", "4 1: drop 0", "0 1: put 1 -2 0", " 0 1: drop 2", "0 1: drop 2;drop 3", Txt.mul "0 1: drop 1; " 2, "0 1: drop 32"]
theorem lawOdd_ok : ∀ p ∈ lawOdd, (tl p).length ≤ 1500 ∧ Sg p := fun p hp => by
  have h : (lawOdd.all fun p => decide ((tl p).length ≤ 1500) && sgB p) = true := by decide +kernel
  have := List.all_eq_true.mp h p hp
  rw [Bool.and_eq_true] at this
  exact ⟨of_decide_eq_true this.1, sgB_ok this.2⟩
section
variable {P : Program} {w : World} {K : PySem.W.Frag} {mg : Str → Option Value} {base : Heap} {A : Ad} {B fR fI pR pL : Addr}
abbrev Nsclaw : List Str := ["_law_script", "_law_box", "_law_odd", "_law_turn", "_law_text_here", "_law_deed_here", "_law_due_here"]
theorem sclaw : FnScope Nsclaw ["_law_script"] (defScope s_law) := ⟨rfl, rfl, rfl, by decide +kernel, rfl, by decide +kernel, by decide +kernel⟩
def spLaw (K : PySem.W.Frag) (pR pL : Addr) : Sp := fun vs H Q _ => ∃ (a : Addr) (ns : List Int), vs = [.ref a] ∧ SqL K H a (ns.map V.int) ∧ ns.length ≤ 63 ∧ Tg [pR] H ∧ Tabs (tbL pL) H ∧ ∀ G, Q (.bl true) G
theorem ok_law (T : Txt K mg A) (X : Ex P w K mg A B fR fI) (htop : (P.main.scope.names.lookup ("super" : Str)).isSome = false) (TR : GxR.TabB base mg (A.co 31 0) pR) (TL : LamX.TabB base mg (A.co 57 0) pL) (nLR : pL ≠ pR) (RT : Rfd K A (A.c 12) "BadText" (some "row")) (RH : Rfd K A (A.c 3) "BadHand" none) (RD : Rfd K A (A.c 2) "BadDeal" (some "place")) {fd : FuncData} (F : Fun K "law" "law" s_law (A.d 58) fd) :
    FnOk P w K mg base CX0 15 (A.d 58) fd ["_law_script"] (spLaw K pR pL) := by
  obtain ⟨fd1, Gbegun, bbegun⟩ := ok_begun (P := P) (w := w) (base := base) T
  obtain ⟨fd2, Gtake, btake⟩ := ok_take (P := P) (w := w) (base := base) T
  obtain ⟨fd3, Gdeals, bdeals⟩ := ok_ldeals (P := P) (w := w) (base := base) T
  obtain ⟨fd4, Gtext, btext⟩ := ok_text (P := P) (w := w) (base := base) T
  obtain ⟨fd5, Gspoilt, bspoilt⟩ := ok_spoilt (P := P) (w := w) (base := base) T
  obtain ⟨fd6, balike, GA⟩ := ok_alike (P := P) (w := w) (base := base) T
  have Galike := GA 5
  obtain ⟨fd7, Gwrong, bwrong⟩ := ok_wrong (P := P) (w := w) (base := base) T
  obtain ⟨fd8, Gdue, bdue⟩ := ok_due (P := P) (w := w) (base := base) T
  obtain ⟨fd9, Gtold, btold⟩ := ok_told (P := P) (w := w) (base := base) T X htop TR TL nLR RT RH RD
  refine F.ok sclaw (fun vs H Q E h => ?_) (fun cdv Ar outer s0 H vs Q E hr h => ?_)
  · obtain ⟨a, ns, rfl, _⟩ := h
    rfl
  · obtain ⟨a, ns, rfl, hS, hns, TG, TT0, k⟩ := h
    have hu := hu_of hr
    refine ⟨_, (pss_cons (ps_set (i := 1) sclaw.nd rfl (Or.inl rfl) (pe_call Gbegun (hr.mono (by first | decide | omega)) rfl T.begun.at_ T.begun.kp bbegun .nil pass0 (pa_cons (pv 0) pa_nil)))
      (pss_cons (ps_set (i := 2) sclaw.nd rfl (Or.inl rfl) (pe_lst (pa_cons pe_str (pa_cons pe_str (pa_cons pe_str (pa_cons pe_str (pa_cons pe_str (pa_cons pe_str (pa_cons pe_str (pa_cons pe_str (pa_cons pe_str pa_nil)))))))))))
      (pss_cons (ps_set (i := 2) sclaw.nd rfl (Or.inl rfl) (pe_op op_cat (pv 2) (pe_lst (pa_cons pe_str (pa_cons pe_str (pa_cons pe_str (pa_cons pe_str (pa_cons pe_str pa_nil))))))))
      (pss_cons (ps_set (i := 2) sclaw.nd rfl (Or.inl rfl) (pe_op op_cat (pv 2) (pe_lst (pa_cons (pe_op op_mul_strI pe_str pe_int) (pa_cons pe_str pa_nil)))))
      (pss_cons (ps_for PassesOwn.never rfl (pi_range1 (by rfl) T.range (pa_cons pe_int pa_nil)) (pg_name (i := 3) sclaw.nd rfl (Or.inl rfl))
        (pss_cons (ps_set (i := 4) sclaw.nd rfl (Or.inl rfl) (pe_ix ix_list (pe_lst (pa_cons (pe_call Gtext (hr.mono (by first | decide | omega)) rfl T.text.at_ T.text.kp btext .nil pass0 (pa_cons (pe_call Gdeals (hr.mono (by first | decide | omega)) rfl T.deals.at_ T.deals.kp bdeals .nil pass0 (pa_cons (pv 1) pa_nil)) pa_nil)) (pa_cons (pe_ix ix_list (pv 2) (pe_call Gtake (hr.mono (by first | decide | omega)) rfl T.take.at_ T.take.kp btake .nil pass0 (pa_cons (pv 1) (pa_cons pe_int pa_nil))) (fun _ _ => rfl)) pa_nil))) (pe_op op_fdiv (pe_call Gtake (hr.mono (by first | decide | omega)) rfl T.take.at_ T.take.kp btake .nil pass0 (pa_cons (pv 1) (pa_cons pe_int pa_nil))) pe_int) (fun _ _ => rfl)))
        (pss_cons (ps_for PassesOwn.never rfl (pi_range1 (by rfl) T.range (pa_cons (pe_call Gtake (hr.mono (by first | decide | omega)) rfl T.take.at_ T.take.kp btake .nil pass0 (pa_cons (pv 1) (pa_cons pe_int pa_nil))) pa_nil)) (pg_name (i := 5) sclaw.nd rfl (Or.inl rfl))
          (pss_one (ps_set (i := 4) sclaw.nd rfl (Or.inl rfl) (pe_call Gspoilt (hr.mono (by first | decide | omega)) rfl T.spoilt.at_ T.spoilt.kp bspoilt .nil pass0 (pa_cons (pv 1) (pa_cons (pv 4) pa_nil))))))
        (pss_cons (ps_if (pt_cmpR op_eq (pe_call Gtake (hr.mono (by first | decide | omega)) rfl T.take.at_ T.take.kp btake .nil pass0 (pa_cons (pv 1) (pa_cons pe_int pa_nil))) pe_int (nomark _))
          (pss_one (ps_set (i := 4) sclaw.nd rfl (Or.inl rfl) (pe_call Gwrong (hr.mono (by first | decide | omega)) rfl T.wrong.at_ T.wrong.kp bwrong .nil pass0 (pa_cons (pv 1) (pa_cons (pv 4) pa_nil)))))
          pss_nil)
        (pss_cons (ps_set (i := 6) sclaw.nd rfl (Or.inl rfl) (pe_call Gdue (hr.mono (by first | decide | omega)) rfl T.due.at_ T.due.kp bdue .nil pass0 (pa_cons (pv 4) pa_nil)))
        (pss_one (ps_if (PW.pt (pw_or (pt_not (pt_val (pe_call Galike (hr.mono (by first | decide | omega)) rfl T.alike.at_ T.alike.kp balike .nil pass0 (pa_cons (pe_call Gtold (hr.mono (by first | decide | omega)) rfl T.told.at_ T.told.kp btold .nil pass0 (pa_cons (pv 4) pa_nil)) (pa_cons (pv 6) pa_nil))))) (pw_or1 (pt_not (pt_val (pe_call Galike (hr.mono (by first | decide | omega)) rfl T.alike.at_ T.alike.kp balike .nil pass0 (pa_cons (pe_call Gtold (hr.mono (by first | decide | omega)) rfl T.told.at_ T.told.kp btold .nil pass0 (pa_cons (pv 4) pa_nil)) (pa_cons (pv 6) pa_nil))))))))
          (pss_one (ps_ret pe_bl))
          pss_nil)))))))
      (pss_one (ps_ret pe_bl))))))), ?_⟩
    refine ⟨_, rfl, a, ns, rfl, hS, hns, fun G1 bx bi nbx nbi B1 k1 => ?_⟩
    refine ⟨sz 9 (by decide), fun q1 nq1 => ?_⟩
    have kq1 : Kp No G1 (upd G1 q1 (.lst ((lawOdd.take 9).map V.str))) := Kp.new nq1
    have eq1 : upd G1 q1 (.lst ((lawOdd.take 9).map V.str)) q1 = some (.lst ((lawOdd.take 9).map V.str)) := upd_same
    show gName 2 (.ref q1) _ (upd G1 q1 (.lst ((lawOdd.take 9).map V.str))) _
    generalize upd G1 q1 (.lst ((lawOdd.take 9).map V.str)) = G2 at kq1 eq1 ⊢
    refine ⟨_, rfl, sz 5 (by decide), fun q2 nq2 => ?_⟩
    have kq2 : Kp No G2 (upd G2 q2 (.lst (((lawOdd.drop 9).take 5).map V.str))) := Kp.new nq2
    have eq2 : upd G2 q2 (.lst (((lawOdd.drop 9).take 5).map V.str)) q2 = some (.lst (((lawOdd.drop 9).take 5).map V.str)) := upd_same
    show rCat _ _ (upd G2 q2 (.lst (((lawOdd.drop 9).take 5).map V.str))) _
    generalize upd G2 q2 (.lst (((lawOdd.drop 9).take 5).map V.str)) = G3 at kq2 eq2 ⊢
    refine ⟨q1, q2, _, _, rfl, rfl, kq2.t.lst eq1 (fun z => z), eq2, by rw [sizeLine_eq]; decide, fun q3 nq3 => ?_⟩
    have kq3 : Kp No G3 (upd G3 q3 (.lst ((lawOdd.take 9).map V.str ++ ((lawOdd.drop 9).take 5).map V.str))) := Kp.new nq3
    have eq3 : upd G3 q3 (.lst ((lawOdd.take 9).map V.str ++ ((lawOdd.drop 9).take 5).map V.str)) q3 = some (.lst ((lawOdd.take 9).map V.str ++ ((lawOdd.drop 9).take 5).map V.str)) := upd_same
    generalize upd G3 q3 (.lst ((lawOdd.take 9).map V.str ++ ((lawOdd.drop 9).take 5).map V.str)) = G4 at kq3 eq3 ⊢
    refine ⟨_, rfl, "0 1: drop 1; ", 2, rfl, rfl, ⟨by decide +kernel, fun _ _ => by decide +kernel, fun _ _ => by decide +kernel⟩, sz 2 (by decide), fun q4 nq4 => ?_⟩
    have kq4 : Kp No G4 (upd G4 q4 (.lst ((lawOdd.drop 14).map V.str))) := Kp.new nq4
    have eq4 : upd G4 q4 (.lst ((lawOdd.drop 14).map V.str)) q4 = some (.lst ((lawOdd.drop 14).map V.str)) := upd_same
    show rCat _ _ (upd G4 q4 (.lst ((lawOdd.drop 14).map V.str))) _
    generalize upd G4 q4 (.lst ((lawOdd.drop 14).map V.str)) = G5 at kq4 eq4 ⊢
    refine ⟨q3, q4, _, _, rfl, rfl, kq4.t.lst eq3 (fun z => z), eq4, by rw [sizeLine_eq]; decide, fun qo nqo => ?_⟩
    have kqo : Kp No G5 (upd G5 qo (.lst ((lawOdd.take 9).map V.str ++ ((lawOdd.drop 9).take 5).map V.str ++ (lawOdd.drop 14).map V.str))) := Kp.new nqo
    have eqo : upd G5 qo (.lst ((lawOdd.take 9).map V.str ++ ((lawOdd.drop 9).take 5).map V.str ++ (lawOdd.drop 14).map V.str)) qo = some (.lst (lawOdd.map V.str)) := by rw [upd_same]; rfl
    have k15 : Kp No G1 G5 := ((kq1.trans kq2 fun _ z => False.elim z).trans kq3 fun _ z => False.elim z).trans kq4 fun _ z => False.elim z
    have B5 := B1.kt k15.t fun _ z => False.elim z
    have noB := nbox B5 nqo
    have k1o := k1.trans (k15.trans kqo fun _ z => False.elim z) fun _ z => False.elim z
    have B6 := B5.kt kqo.t fun _ z => False.elim z
    generalize upd G5 qo (.lst ((lawOdd.take 9).map V.str ++ ((lawOdd.drop 9).take 5).map V.str ++ (lawOdd.drop 14).map V.str)) = G6 at kqo eqo k1o B6 ⊢
    refine ⟨_, rfl, by decide, by decide, ?_⟩
    refine for_range (lo := 0) (n := 5) (fun i σ J => (∃ o3 o4 o5 o6, σ = [some (.ref a), some (.ref bx), some (.ref qo), o3, o4, o5, o6]) ∧ BoxAt J bx bi ∧ Tg [pR] J ∧ Tabs (tbL pL) J ∧ J qo = some (.lst (lawOdd.map V.str))) ⟨⟨_, _, _, _, rfl⟩, B6, TG.kp k1o, (Kg.of (L := []) k1o).tabs (fun _ _ z => nomatch z) TT0, eqo⟩ ?_ ?_
    · rintro iO σ J hi ⟨⟨o3, o4, o5, o6, rfl⟩, BJ, tgJ, ttJ, eoJ⟩
      refine ⟨_, rfl, bx, bi, rfl, BJ, fun J1 l xs gs B1' k1' nl el pg hg l12 => ⟨l, xs, gs, rfl, el, pg, hg, l12, fun J2 k2 => ?_⟩⟩
      have B2 := B1'.kt k2.t fun _ z => False.elim z
      have kJ2 : Kp (bF bx bi) J J2 := k1'.trans k2 fun _ z => False.elim z
      refine ⟨_, rfl, _, rfl, bx, bi, 16, rfl, B2, by decide, by decide, fun n16 J3 a0 a1 B3 k3 => ?_⟩
      obtain ⟨o16, rfl⟩ := Int.eq_ofNat_of_zero_le a0
      obtain ⟨od, hod⟩ : ∃ o, lawOdd[o16]? = some o := ⟨_, List.getElem?_eq_getElem (show o16 < lawOdd.length from by have : lawOdd.length = 16 := rfl; omega)⟩
      obtain ⟨lod, sod⟩ := lawOdd_ok od (List.mem_of_getElem? hod)
      have kJ3 : Kp (bF bx bi) J J3 := kJ2.trans k3 fun _ z => .inl z
      have eo3 := kJ3.t.lst eoJ noB
      refine ⟨qo, _, (o16 : Int), .str od, rfl, rfl, SqL.of eo3, atI_nat (by rw [List.getElem?_map, hod]; rfl), sz 2 (by decide), fun ql nql => ?_⟩
      have kl : Kp No J3 (upd J3 ql (.lst [.str (textS gs), .str od])) := Kp.new nql
      have el2 : upd J3 ql (.lst [.str (textS gs), .str od]) ql = some (.lst [.str (textS gs), .str od]) := upd_same
      have nlB := nbox B3 nql
      generalize upd J3 ql (.lst [.str (textS gs), .str od]) = J4 at kl el2 ⊢
      refine ⟨_, rfl, bx, bi, 3, rfl, B3.kt kl.t fun _ z => False.elim z, by decide, by decide, fun n3 J5 b0 b1 B5' k5 => ?_⟩
      obtain ⟨o33, rfl⟩ := Int.eq_ofNat_of_zero_le b0
      have kJ5 : Kp (bF bx bi) J J5 := (kJ3.trans kl fun _ z => False.elim z).trans k5 fun _ z => .inl z
      obtain ⟨tx, hat, ltx, stx⟩ : ∃ tx : Str, atI [V.str (textS gs), V.str od] ((o33 : Int) / 2) = some (.str tx) ∧ (tl tx).length ≤ 1500 ∧ Sg tx := by
        have : o33 = 0 ∨ o33 = 1 ∨ o33 = 2 := by omega
        rcases this with rfl | rfl | rfl
        · exact ⟨_, atI_nat (j := 0) rfl, text_len12 hg l12, text_sg gs⟩
        · exact ⟨_, atI_nat (j := 0) rfl, text_len12 hg l12, text_sg gs⟩
        · exact ⟨_, atI_nat (j := 1) rfl, lod, sod⟩
      refine ⟨_, _, rfl, rfl, ⟨by decide, by decide⟩, ql, _, _, .str tx, rfl, rfl, SqL.of (k5.t.lst el2 nlB), hat, ?_⟩
      refine ⟨_, rfl, bx, bi, 4, rfl, B5', by decide, by decide, fun n4 J6 c0 c1 B6' k6 => ?_⟩
      obtain ⟨o44, rfl⟩ := Int.eq_ofNat_of_zero_le c0
      have kJ6 : Kp (bF bx bi) J J6 := kJ5.trans k6 fun _ z => .inl z
      refine ⟨_, rfl, by omega, by omega, ?_⟩
      rw [show ((o44 : Nat) : Int).toNat = o44 by omega]
      refine for_range (lo := 0) (n := o44) (fun i σ M => (∃ (o5 o6 : Option V) (tx : Str), σ = [some (.ref a), some (.ref bx), some (.ref qo), some (.int (0 + (iO : Int))), some (.str tx), o5, o6] ∧ Sg tx ∧ (tl tx).length + 100 ≤ 1600 * 2 ^ i) ∧ BoxAt M bx bi ∧ Kp (bF bx bi) J M) ⟨⟨_, _, tx, rfl, stx, by omega⟩, B6', kJ6⟩ ?_ ?_
      · rintro j σ M hj ⟨⟨o5, o6, tx, rfl, stx, ltx⟩, BM, kM⟩
        have p2 : (2 : Nat) ^ j ≤ 4 := by
          have : j = 0 ∨ j = 1 ∨ j = 2 := by omega
          rcases this with rfl | rfl | rfl <;> decide
        refine ⟨_, rfl, _, rfl, bx, bi, tx, rfl, BM, by omega, stx, fun M2 y BM2 kM2 ly sy => ⟨⟨_, _, y, rfl, sy, ?_⟩, BM2, kM.trans kM2 fun _ z => .inl z⟩⟩
        rw [Nat.pow_succ]
        omega
      · rintro σ M ⟨⟨o5, o6, tx, rfl, stx, ltx⟩, BM, kM⟩
        have p2 : (2 : Nat) ^ o44 ≤ 8 := by
          have : o44 = 0 ∨ o44 = 1 ∨ o44 = 2 ∨ o44 = 3 := by omega
          rcases this with rfl | rfl | rfl | rfl <;> decide
        refine ⟨_, rfl, bx, bi, 3, rfl, BM, by decide, by decide, fun n9 M2 d0 d1 BM2 kM2 => ?_⟩
        have kJM2 : Kp (bF bx bi) J M2 := kM.trans kM2 fun _ z => .inl z
        refine ⟨rfl, _, rfl, ?_⟩
        refine ite2 (fun _ => ?_) (fun _ => ?_)
        · refine ⟨_, rfl, _, rfl, bx, bi, tx, rfl, BM2, by omega, stx, fun M3 y BM3 kM3 ly sy => ?_⟩
          have kJM3 : Kp (bF bx bi) J M3 := kJM2.trans kM3 fun _ z => .inl z
          have tg3 := tgJ.kp kJM3
          have tt3 := (Kg.of (L := []) kJM3).tabs (fun _ _ z => nomatch z) ttJ
          have eo3' := kJM3.t.lst eoJ noB
          refine ⟨_, rfl, y, rfl, by omega, sy, fun Y1 v y1 hv => ?_⟩
          have lo : ∀ gs, outOf y = .ok gs → gs.length ≤ 10000000 := fun gs hg => by
            have := out_len hg
            have h2 : (rowsOf y).length ≤ (tl y).length + 1 := by
              unfold rowsOf
              split
              · simp
              · exact sepN.len _
            omega
          have tg1 := tg3.kp y1
          have tt1 := (Kg.of (L := []) y1).tabs (fun _ _ z => nomatch z) tt3
          refine ⟨_, rfl, y, rfl, tg1, tt1, by omega, fun Y2 v2 y2 tg2 tt2 hv2 => ?_⟩
          refine ⟨_, rfl, v2, v, rfl, al_out lo hv2 (hv.kt y2), true, rfl, iteF ?_⟩
          refine ⟨_, rfl, y, rfl, tg2, tt2, by omega, fun Y3 v3 y3 tg3 tt3 hv3 => ?_⟩
          refine ⟨_, rfl, v3, v, rfl, al_out lo hv3 ((hv.kt y2).kt y3), true, rfl, iteF ?_⟩
          exact ⟨⟨_, _, _, _, rfl⟩, ((BM3.kt y1.t fun _ z => False.elim z).kt y2 fun _ z => False.elim z).kt y3 (fun _ z => False.elim z), tg3, tt3, y3.lst (y2.lst (y1.t.lst eo3' fun z => z) fun z => z) fun z => z⟩
        · have tg3 := tgJ.kp kJM2
          have tt3 := (Kg.of (L := []) kJM2).tabs (fun _ _ z => nomatch z) ttJ
          have eo3' := kJM2.t.lst eoJ noB
          refine ⟨_, rfl, tx, rfl, by omega, stx, fun Y1 v y1 hv => ?_⟩
          have lo : ∀ gs, outOf tx = .ok gs → gs.length ≤ 10000000 := fun gs hg => by
            have := out_len hg
            have h2 : (rowsOf tx).length ≤ (tl tx).length + 1 := by
              unfold rowsOf
              split
              · simp
              · exact sepN.len _
            omega
          have tg1 := tg3.kp y1
          have tt1 := (Kg.of (L := []) y1).tabs (fun _ _ z => nomatch z) tt3
          refine ⟨_, rfl, tx, rfl, tg1, tt1, by omega, fun Y2 v2 y2 tg2 tt2 hv2 => ?_⟩
          refine ⟨_, rfl, v2, v, rfl, al_out lo hv2 (hv.kt y2), true, rfl, iteF ?_⟩
          refine ⟨_, rfl, tx, rfl, tg2, tt2, by omega, fun Y3 v3 y3 tg3 tt3 hv3 => ?_⟩
          refine ⟨_, rfl, v3, v, rfl, al_out lo hv3 ((hv.kt y2).kt y3), true, rfl, iteF ?_⟩
          exact ⟨⟨_, _, _, _, rfl⟩, ((BM2.kt y1.t fun _ z => False.elim z).kt y2 fun _ z => False.elim z).kt y3 (fun _ z => False.elim z), tg3, tt3, y3.lst (y2.lst (y1.t.lst eo3' fun z => z) fun z => z) fun z => z⟩
    · rintro σ J ⟨⟨o3, o4, o5, o6, rfl⟩, _⟩
      exact k J
end
end S02

set_option Elab.async false
set_option linter.all false
set_option maxRecDepth 100000
set_option maxHeartbeats 8000000
namespace S02
open PySem PySem.Spec PyProof.Rows L2 LamX K5 SupX
section
variable {K : PySem.W.Frag} {x q : Str} {st : Stmt} {f : Addr}
theorem fun_ofD (F : ∃ fd, FunD K x q (defArgs st) (defBody st) (defScope st) [] [] f fd) : ∃ fd, Fun K x q st f fd := by
  obtain ⟨fd, F⟩ := F
  obtain ⟨oc, od, dV, kV, doc, pm, an, cdv, ct, osl, rfl, lk, hcd, hD, _⟩ := F.ex
  rcases hD with ⟨_, rfl⟩ | ⟨e, _⟩
  · exact ⟨_, fun_mk lk hcd F.kp⟩
  · exact absurd rfl e
theorem fnC_ofD {p : Str × Option Str} (F : ∃ fd, FunD K x q (defArgs st) (defBody st) (defScope st) [] [] (He.fAd K p) fd) : FnC K x q st (He.fAd K p) (He.cT K p).1 := by
  obtain ⟨fd, F⟩ := F
  obtain ⟨oc, od, dV, kV, doc, pm, an, cdv, ct, osl, rfl, lk, hcd, hD, _⟩ := F.ex
  rcases hD with ⟨_, rfl⟩ | ⟨e, _⟩
  · obtain ⟨c, rfl⟩ := He.codeIn_ref hcd
    have e : He.codeOf K p = c := He.codeOf_eq lk rfl
    subst e
    exact ⟨⟨_, _, _, _, _, _, _, _, lk, hcd⟩, F.kp⟩
  · exact absurd rfl e
theorem mk_meth {C : Addr} (M : Mk K C f) (F : ∃ fd, Fun K "__init__" q st f fd) : Meth K C "__init__" f := by
  obtain ⟨_, F⟩ := F
  exact ⟨M.init, M.fn, F.kp⟩
end
def adOf (K : PySem.W.Frag) : Ad := ⟨(fun i => match i with | 18 => He.ga K "within" | 21 => He.ga K "check_hand" | 22 => He.ga K "is_deed" | 23 => He.ga K "check_deal" | 27 => He.ga K "check_deals" | 28 => He.ga K "read_number" | 29 => He.ga K "read_last" | 30 => He.ga K "read_deed" | 31 => He.ga K "read_row" | 32 => He.ga K "read_deals" | 34 => He.ga K "_law_begun" | 35 => He.ga K "_law_take" | 36 => He.ga K "_law_alike" | 37 => He.ga K "_law_class" | 38 => He.ga K "_law_refused" | 39 => He.ga K "_law_all" | 40 => He.ga K "_law_store" | 41 => He.ga K "_law_again" | 42 => He.ga K "_law_seen" | 43 => He.ga K "_law_tried" | 44 => He.ga K "_law_deal" | 45 => He.ga K "_law_whole" | 46 => He.ga K "_law_deed" | 47 => He.ga K "_law_drawn" | 48 => He.ga K "_law_deals" | 49 => He.ga K "_law_text" | 50 => He.ga K "_law_spoilt" | 51 => He.ga K "_law_wrong" | 52 => He.ga K "_law_number" | 53 => He.ga K "_law_part" | 54 => He.ga K "_law_row" | 55 => He.ga K "_law_fault" | 56 => He.ga K "_law_due" | 57 => He.ga K "_law_told" | 58 => He.ga K "law" | _ => 0), (fun i => match i with | 1 => He.ga K "StillError" | 2 => He.ga K "BadDeal" | 3 => He.ga K "BadHand" | 4 => He.ga K "BadLetter" | 5 => He.ga K "BadTime" | 6 => He.ga K "BadKey" | 7 => He.ga K "BadHouse" | 8 => He.ga K "NoCopy" | 9 => He.ga K "Behind" | 10 => He.ga K "BadBlock" | 11 => He.ga K "BadEntry" | 12 => He.ga K "BadText" | 13 => He.ga K "Stopped" | _ => 0), (fun _ _ => 0), (fun i j => match i, j with | 31, 0 => (He.cT K ("read_row", none)).1 | 57, 0 => (He.cT K ("_law_told", none)).1 | _, _ => 0)⟩
theorem txt_of {w : World} {K : PySem.W.Frag} {h : Heap} {mg : Str → Option Value} (X : K.In h) (G : h.Ns mainGlobals mg) (c : SaysY fa fn ts tf exB fy w h K) : Txt K mg (adOf K) :=
  let d := c.x.t.d
  {
    within := ⟨fun_ofD (d.def_ 0 rfl), He.glo_ok X G (d.fact 0 (f := .glo "within") rfl)⟩,
    check_hand := ⟨fun_ofD (d.def_ 1 rfl), He.glo_ok X G (d.fact 1 (f := .glo "check_hand") rfl)⟩,
    is_deed := ⟨fun_ofD (d.def_ 2 rfl), He.glo_ok X G (d.fact 2 (f := .glo "is_deed") rfl)⟩,
    check_deal := ⟨fun_ofD (d.def_ 3 rfl), He.glo_ok X G (d.fact 3 (f := .glo "check_deal") rfl)⟩,
    check_deals := ⟨fun_ofD (d.def_ 4 rfl), He.glo_ok X G (d.fact 4 (f := .glo "check_deals") rfl)⟩,
    read_number := ⟨fun_ofD (d.def_ 5 rfl), He.glo_ok X G (d.fact 5 (f := .glo "read_number") rfl)⟩,
    read_last := ⟨fun_ofD (d.def_ 6 rfl), He.glo_ok X G (d.fact 6 (f := .glo "read_last") rfl)⟩,
    read_deed := ⟨fun_ofD (d.def_ 7 rfl), He.glo_ok X G (d.fact 7 (f := .glo "read_deed") rfl)⟩,
    read_row := ⟨fun_ofD (d.def_ 8 rfl), He.glo_ok X G (d.fact 8 (f := .glo "read_row") rfl)⟩,
    C_read_row := fnC_ofD (p := ("read_row", none)) (d.def_ 8 rfl),
    read_deals := ⟨fun_ofD (d.def_ 9 rfl), He.glo_ok X G (d.fact 9 (f := .glo "read_deals") rfl)⟩,
    begun := ⟨fun_ofD (d.def_ 10 rfl), He.glo_ok X G (d.fact 10 (f := .glo "_law_begun") rfl)⟩,
    take := ⟨fun_ofD (d.def_ 11 rfl), He.glo_ok X G (d.fact 11 (f := .glo "_law_take") rfl)⟩,
    alike := ⟨fun_ofD (d.def_ 12 rfl), He.glo_ok X G (d.fact 12 (f := .glo "_law_alike") rfl)⟩,
    class_ := ⟨fun_ofD (d.def_ 13 rfl), He.glo_ok X G (d.fact 13 (f := .glo "_law_class") rfl)⟩,
    refused := ⟨fun_ofD (d.def_ 14 rfl), He.glo_ok X G (d.fact 14 (f := .glo "_law_refused") rfl)⟩,
    lall := ⟨fun_ofD (d.def_ 15 rfl), He.glo_ok X G (d.fact 15 (f := .glo "_law_all") rfl)⟩,
    store := ⟨fun_ofD (d.def_ 16 rfl), He.glo_ok X G (d.fact 16 (f := .glo "_law_store") rfl)⟩,
    again := ⟨fun_ofD (d.def_ 17 rfl), He.glo_ok X G (d.fact 17 (f := .glo "_law_again") rfl)⟩,
    seen := ⟨fun_ofD (d.def_ 18 rfl), He.glo_ok X G (d.fact 18 (f := .glo "_law_seen") rfl)⟩,
    tried := ⟨fun_ofD (d.def_ 19 rfl), He.glo_ok X G (d.fact 19 (f := .glo "_law_tried") rfl)⟩,
    deal := ⟨fun_ofD (d.def_ 20 rfl), He.glo_ok X G (d.fact 20 (f := .glo "_law_deal") rfl)⟩,
    whole := ⟨fun_ofD (d.def_ 21 rfl), He.glo_ok X G (d.fact 21 (f := .glo "_law_whole") rfl)⟩,
    deed := ⟨fun_ofD (d.def_ 22 rfl), He.glo_ok X G (d.fact 22 (f := .glo "_law_deed") rfl)⟩,
    drawn := ⟨fun_ofD (d.def_ 23 rfl), He.glo_ok X G (d.fact 23 (f := .glo "_law_drawn") rfl)⟩,
    deals := ⟨fun_ofD (d.def_ 24 rfl), He.glo_ok X G (d.fact 24 (f := .glo "_law_deals") rfl)⟩,
    text := ⟨fun_ofD (d.def_ 25 rfl), He.glo_ok X G (d.fact 25 (f := .glo "_law_text") rfl)⟩,
    spoilt := ⟨fun_ofD (d.def_ 26 rfl), He.glo_ok X G (d.fact 26 (f := .glo "_law_spoilt") rfl)⟩,
    wrong := ⟨fun_ofD (d.def_ 27 rfl), He.glo_ok X G (d.fact 27 (f := .glo "_law_wrong") rfl)⟩,
    number := ⟨fun_ofD (d.def_ 28 rfl), He.glo_ok X G (d.fact 28 (f := .glo "_law_number") rfl)⟩,
    part := ⟨fun_ofD (d.def_ 29 rfl), He.glo_ok X G (d.fact 29 (f := .glo "_law_part") rfl)⟩,
    row := ⟨fun_ofD (d.def_ 30 rfl), He.glo_ok X G (d.fact 30 (f := .glo "_law_row") rfl)⟩,
    fault := ⟨fun_ofD (d.def_ 31 rfl), He.glo_ok X G (d.fact 31 (f := .glo "_law_fault") rfl)⟩,
    due := ⟨fun_ofD (d.def_ 32 rfl), He.glo_ok X G (d.fact 32 (f := .glo "_law_due") rfl)⟩,
    told := ⟨fun_ofD (d.def_ 33 rfl), He.glo_ok X G (d.fact 33 (f := .glo "_law_told") rfl)⟩,
    C_told := fnC_ofD (p := ("_law_told", none)) (d.def_ 33 rfl),
    law := ⟨fun_ofD (d.def_ 34 rfl), He.glo_ok X G (d.fact 34 (f := .glo "law") rfl)⟩,
    c_StillError := He.glo_ok X G (d.fact 35 (f := .glo "StillError") rfl),
    c_BadDeal := He.glo_ok X G (d.fact 36 (f := .glo "BadDeal") rfl),
    x_BadHand := ⟨He.glo_ok X G (d.fact 37 (f := .glo "BadHand") rfl), (He.exc_ok (d.fact 48 (f := .exc "BadHand") rfl)).1, (He.exc_ok (d.fact 48 (f := .exc "BadHand") rfl)).2.1, (He.exc_ok (d.fact 48 (f := .exc "BadHand") rfl)).2.2.1, (He.exc_ok (d.fact 48 (f := .exc "BadHand") rfl)).2.2.2⟩,
    x_BadLetter := ⟨He.glo_ok X G (d.fact 38 (f := .glo "BadLetter") rfl), (He.exc_ok (d.fact 50 (f := .exc "BadLetter") rfl)).1, (He.exc_ok (d.fact 50 (f := .exc "BadLetter") rfl)).2.1, (He.exc_ok (d.fact 50 (f := .exc "BadLetter") rfl)).2.2.1, (He.exc_ok (d.fact 50 (f := .exc "BadLetter") rfl)).2.2.2⟩,
    x_BadTime := ⟨He.glo_ok X G (d.fact 39 (f := .glo "BadTime") rfl), (He.exc_ok (d.fact 52 (f := .exc "BadTime") rfl)).1, (He.exc_ok (d.fact 52 (f := .exc "BadTime") rfl)).2.1, (He.exc_ok (d.fact 52 (f := .exc "BadTime") rfl)).2.2.1, (He.exc_ok (d.fact 52 (f := .exc "BadTime") rfl)).2.2.2⟩,
    x_BadKey := ⟨He.glo_ok X G (d.fact 40 (f := .glo "BadKey") rfl), (He.exc_ok (d.fact 54 (f := .exc "BadKey") rfl)).1, (He.exc_ok (d.fact 54 (f := .exc "BadKey") rfl)).2.1, (He.exc_ok (d.fact 54 (f := .exc "BadKey") rfl)).2.2.1, (He.exc_ok (d.fact 54 (f := .exc "BadKey") rfl)).2.2.2⟩,
    x_BadHouse := ⟨He.glo_ok X G (d.fact 41 (f := .glo "BadHouse") rfl), (He.exc_ok (d.fact 56 (f := .exc "BadHouse") rfl)).1, (He.exc_ok (d.fact 56 (f := .exc "BadHouse") rfl)).2.1, (He.exc_ok (d.fact 56 (f := .exc "BadHouse") rfl)).2.2.1, (He.exc_ok (d.fact 56 (f := .exc "BadHouse") rfl)).2.2.2⟩,
    x_NoCopy := ⟨He.glo_ok X G (d.fact 42 (f := .glo "NoCopy") rfl), (He.exc_ok (d.fact 58 (f := .exc "NoCopy") rfl)).1, (He.exc_ok (d.fact 58 (f := .exc "NoCopy") rfl)).2.1, (He.exc_ok (d.fact 58 (f := .exc "NoCopy") rfl)).2.2.1, (He.exc_ok (d.fact 58 (f := .exc "NoCopy") rfl)).2.2.2⟩,
    c_Behind := He.glo_ok X G (d.fact 43 (f := .glo "Behind") rfl),
    x_BadBlock := ⟨He.glo_ok X G (d.fact 44 (f := .glo "BadBlock") rfl), (He.exc_ok (d.fact 60 (f := .exc "BadBlock") rfl)).1, (He.exc_ok (d.fact 60 (f := .exc "BadBlock") rfl)).2.1, (He.exc_ok (d.fact 60 (f := .exc "BadBlock") rfl)).2.2.1, (He.exc_ok (d.fact 60 (f := .exc "BadBlock") rfl)).2.2.2⟩,
    x_BadEntry := ⟨He.glo_ok X G (d.fact 45 (f := .glo "BadEntry") rfl), (He.exc_ok (d.fact 62 (f := .exc "BadEntry") rfl)).1, (He.exc_ok (d.fact 62 (f := .exc "BadEntry") rfl)).2.1, (He.exc_ok (d.fact 62 (f := .exc "BadEntry") rfl)).2.2.1, (He.exc_ok (d.fact 62 (f := .exc "BadEntry") rfl)).2.2.2⟩,
    c_BadText := He.glo_ok X G (d.fact 46 (f := .glo "BadText") rfl),
    x_Stopped := ⟨He.glo_ok X G (d.fact 47 (f := .glo "Stopped") rfl), (He.exc_ok (d.fact 64 (f := .exc "Stopped") rfl)).1, (He.exc_ok (d.fact 64 (f := .exc "Stopped") rfl)).2.1, (He.exc_ok (d.fact 64 (f := .exc "Stopped") rfl)).2.2.1, (He.exc_ok (d.fact 64 (f := .exc "Stopped") rfl)).2.2.2⟩,
    k_LAST_KEY := He.int_ok X G (d.fact 66 (f := .int "LAST_KEY" 31) rfl),
    k_LAST_HAND := He.int_ok X G (d.fact 67 (f := .int "LAST_HAND" 3) rfl),
    k_MOST_DEEDS := He.int_ok X G (d.fact 68 (f := .int "MOST_DEEDS" 4) rfl),
    k_MOST_FIGURES := He.int_ok X G (d.fact 69 (f := .int "MOST_FIGURES" 4) rfl),
    ValueError := He.free_ok X G (d.fact 70 (f := .free "ValueError") rfl),
    abs := He.free_ok X G (d.fact 71 (f := .free "abs") rfl),
    all := He.free_ok X G (d.fact 72 (f := .free "all") rfl),
    bool := He.free_ok X G (d.fact 73 (f := .free "bool") rfl),
    dict := He.free_ok X G (d.fact 74 (f := .free "dict") rfl),
    enumerate := He.free_ok X G (d.fact 75 (f := .free "enumerate") rfl),
    int := He.free_ok X G (d.fact 76 (f := .free "int") rfl),
    isinstance := He.free_ok X G (d.fact 77 (f := .free "isinstance") rfl),
    len := He.free_ok X G (d.fact 78 (f := .free "len") rfl),
    list := He.free_ok X G (d.fact 79 (f := .free "list") rfl),
    range := He.free_ok X G (d.fact 80 (f := .free "range") rfl),
    sorted := He.free_ok X G (d.fact 81 (f := .free "sorted") rfl),
    str := He.free_ok X G (d.fact 82 (f := .free "str") rfl),
    tuple := He.free_ok X G (d.fact 83 (f := .free "tuple") rfl),
    zip := He.free_ok X G (d.fact 84 (f := .free "zip") rfl) }
end S02

set_option Elab.async false
set_option linter.all false
set_option maxRecDepth 100000
set_option maxHeartbeats 2000000
/-! ### what these facts say -/
namespace S02
open PySem PySem.Spec PyProof.Rows L2 K5 SupX
section
variable {K : PySem.W.Frag}
theorem itsOf_ok {a : Addr} {vs : List Value} (h : itsOf K a = some vs) {xs : List V} (r : Vals xs vs) : WT K a xs := by
  unfold itsOf at h
  split at h
  · rename_i c d its n sl e
    split at h
    · rename_i z
      cases h
      refine ⟨_, its, n, e, congrArg Value.type z.1, rfl, ?_, r⟩
      have := z.2
      rw [sizeLine_eq]
      omega
    · cases h
  · cases h
theorem prB_ok {v : Value} {p : Int × Int} (h : prB K v p = true) : ∃ a, v = .ref a ∧ WT K a [.int p.1, .int p.2] := by
  unfold prB at h
  split at h
  · rename_i a
    split at h
    · rename_i i ti j tj e
      obtain ⟨h1, h2⟩ := Bool.and_eq_true_iff.mp h
      rw [← of_decide_eq_true h1, ← of_decide_eq_true h2]
      exact ⟨a, rfl, itsOf_ok e (.cons ⟨ti, rfl⟩ (.cons ⟨tj, rfl⟩ .nil))⟩
    · cases h
  · cases h
theorem prsB_ok : ∀ {vs : List Value} {ps : List (Int × Int)}, prsB K vs ps = true → ∃ as : List Addr, vs = as.map Value.ref ∧ Paired (fun a p => WT K a [.int p.1, .int p.2]) as ps
  | [], [], _ => ⟨[], rfl, .nil⟩
  | [], _ :: _, h => by cases h
  | _ :: _, [], h => by cases h
  | v :: vs, p :: ps, h => by
    obtain ⟨h1, h2⟩ := Bool.and_eq_true_iff.mp (show (prB K v p && prsB K vs ps) = true from h)
    obtain ⟨a, e, w⟩ := prB_ok h1
    obtain ⟨as, e2, w2⟩ := prsB_ok h2
    exact ⟨a :: as, by rw [e, e2]; rfl, .cons w w2⟩
theorem vals_refs : ∀ as : List Addr, Vals (as.map V.ref) (as.map Value.ref)
  | [] => .nil
  | _ :: as => .cons rfl (vals_refs as)
theorem bdB_ok {b : Addr} {l : List (Int × Int)} (h : bdB K b l = true) : BndAt K b l := by
  unfold bdB at h
  split at h
  · rename_i vs e
    obtain ⟨as, e2, w⟩ := prsB_ok h
    exact ⟨as, itsOf_ok e (by rw [e2]; exact vals_refs as), w⟩
  · cases h
theorem boundsB_ok {x : Str} {l : List (Int × Int)} (h : boundsB K x l = true) : ∃ b, PySem.W.nsIn K (gB K) x = some (some (.ref b)) ∧ BndAt K b l := by
  obtain ⟨h1, h2⟩ := Bool.and_eq_true_iff.mp (show (isA K (gB K) x (vA K (gB K) x) && bdB K (vA K (gB K) x) l) = true from h)
  exact ⟨_, of_decide_eq_true h1, bdB_ok h2⟩
theorem initB_ok {P : Program} {st : Stmt} {cn q : Str} (hf : P.main.file = ("/claim/cut.py" : Str)) (e : fnY1 K cn = (some ("__init__", q, defArgs st, .stmts (defBody st), defScope st, mainGlobals, ["__class__"], .none, builtinsNs) : FnY1)) (h : initB K cn q = true) :
    InitAt P K (gX K cn) (gI K cn) q st := by
  obtain ⟨h1, h⟩ := Bool.and_eq_true_iff.mp h
  obtain ⟨h2, h3⟩ := Bool.and_eq_true_iff.mp h
  refine ⟨?_, of_decide_eq_true h2, of_decide_eq_true h3⟩
  unfold fnY1 at e
  unfold funB at h1
  split at h1
  · rename_i oc od fd osl lk
    rw [lk] at e
    obtain ⟨c1, h1⟩ := Bool.and_eq_true_iff.mp h1
    obtain ⟨c2, c3⟩ := Bool.and_eq_true_iff.mp h1
    obtain ⟨n1, n2, n3, n4, n5, n6, n7, n8, n9, n10, n11, n12, n13, n14, n15⟩ := fd
    have e2 := Option.some.inj e
    simp only [Prod.mk.injEq] at e2
    obtain ⟨q1, q2, q3, q4, q5, q6, q7, q8, q9⟩ := e2
    subst q1 q2 q3 q4 q5 q6 q8 q9
    unfold cellB at c1
    split at c1
    · rename_i x cc lc
      split at c1
      · rename_i cl cld D csl e4
        have eD : D = gX K cn := of_decide_eq_true c1
        subst eD
        dsimp only at lc
        rw [lc] at q7
        have ex : x = "__class__" := List.head_eq_of_cons_eq (show [x] = [("__class__" : Str)] from q7)
        unfold fileB at c3
        split at c3
        · rename_i cda ecd
          split at c3
          · rename_i ccl cdd vs ccs e5
            split at c3
            · rename_i file tf e6
              dsimp only at c2 ecd
              subst lc ecd ex
              exact ⟨oc, od, n9, n10, n11, n12, cda, cc, n14, osl, ccl, cdd, vs, ccs, file, tf, cl, cld, csl, lk, c2, e5, e6, by rw [hf]; exact c3, e4⟩
            · cases c3
          · cases c3
        · cases c3
      · cases c1
    · cases c1
  · cases h1
theorem slB_ok {l : List (Option Value)} (h : slB l = true) : ∃ k0 k1 k2 k3 k5, l = [k0, k1, k2, k3, some (Value.builtin "ValueError.__new__"), k5] := by
  unfold slB at h
  split at h
  · rename_i k0 k1 k2 k3 n k5
    rw [of_decide_eq_true h]
    exact ⟨k0, k1, k2, k3, k5, rfl⟩
  · cases h
theorem mroB_ok {C : Addr} {l : List Value} (h : mroB C l = true) : ∃ bm, l = .ref C :: bm ∧ PySem.HandSPX.refsVE bm = true := by
  unfold mroB at h
  split at h
  · rename_i D bm
    obtain ⟨h1, h2⟩ := Bool.and_eq_true_iff.mp h
    rw [of_decide_eq_true h1]
    exact ⟨bm, rfl, h2⟩
  · cases h
theorem cdB_ok {C : Addr} {cd : ClassData} {sl : Array (Option Value)} {dd : Option Addr} (h : cdB C cd sl = true) :
    ∃ nm q N bs bm sn sub ab col k0 k1 k2 k3 k5, (⟨.type "type", dd, .cls cd, sl⟩ : Obj) = excClassObj nm q C N bs bm true sn sub ab col dd k0 k1 k2 k3 k5 "ValueError.__new__" ∧ PySem.HandSPX.refsVE bm = true := by
  obtain ⟨z1, h⟩ := Bool.and_eq_true_iff.mp h
  obtain ⟨z2, h⟩ := Bool.and_eq_true_iff.mp h
  obtain ⟨z3, z4⟩ := Bool.and_eq_true_iff.mp h
  obtain ⟨bm, hm, hv⟩ := mroB_ok z1
  obtain ⟨k0, k1, k2, k3, k5, hs⟩ := slB_ok z4
  obtain ⟨nm, bs, mro, ns, qn, hd, sn, sub, ab, col, del⟩ := cd
  dsimp only at hm z2 z3
  subst hm z2
  have ed : del = false := by
    cases del
    · rfl
    · cases z3
  subst ed
  obtain ⟨l⟩ := sl
  dsimp only at hs
  subst hs
  exact ⟨nm, qn, ns, bs, bm, sn, sub, ab, col, k0, k1, k2, k3, k5, rfl, hv⟩
theorem clO_ok {K : PySem.W.Frag} {C : Addr} (h : clO K C = true) : ∃ nm q N bs bm sn sub ab col dd k0 k1 k2 k3 k5, K.lookup C = some (excClassObj nm q C N bs bm true sn sub ab col dd k0 k1 k2 k3 k5 "ValueError.__new__") ∧ PySem.HandSPX.refsVE bm = true := by
  unfold clO at h
  split at h
  · rename_i t dd cd sl lk
    obtain ⟨h1, h2⟩ := Bool.and_eq_true_iff.mp h
    rw [of_decide_eq_true h1] at lk
    obtain ⟨nm, q, N, bs, bm, sn, sub, ab, col, k0, k1, k2, k3, k5, e, hv⟩ := cdB_ok (dd := dd) h2
    exact ⟨nm, q, N, bs, bm, sn, sub, ab, col, dd, k0, k1, k2, k3, k5, lk.trans (congrArg some e), hv⟩
  · cases h
theorem oexB_ok {K : PySem.W.Frag} {C : Addr} (h : oexB K C = true) : OexC K C := by
  obtain ⟨h1, h⟩ := Bool.and_eq_true_iff.mp h
  obtain ⟨h2, h⟩ := Bool.and_eq_true_iff.mp h
  obtain ⟨h3, h⟩ := Bool.and_eq_true_iff.mp h
  obtain ⟨h4, h5⟩ := Bool.and_eq_true_iff.mp h
  obtain ⟨nm, q, N, bs, bm, sn, sub, ab, col, dd, k0, k1, k2, k3, k5, lk, hv⟩ := clO_ok h1
  exact ⟨⟨nm, q, N, bs, bm, sn, sub, ab, col, dd, k0, k1, k2, k3, k5, lk, hv⟩, of_decide_eq_true h2, of_decide_eq_true h3, of_decide_eq_true h4, h5⟩
theorem clsB_ok {mg : Str → Option Value} {c n : Str} (hs : mg "super" = none) (h : clsB K c n = true) : ClsAt K mg (gX K c) n := by
  obtain ⟨h1, h⟩ := Bool.and_eq_true_iff.mp h
  obtain ⟨h2, h⟩ := Bool.and_eq_true_iff.mp h
  obtain ⟨h3, h⟩ := Bool.and_eq_true_iff.mp h
  obtain ⟨h4, h⟩ := Bool.and_eq_true_iff.mp h
  obtain ⟨h5, h6⟩ := Bool.and_eq_true_iff.mp h
  exact ⟨oexB_ok h1, of_decide_eq_true h2, of_decide_eq_true h3, of_decide_eq_true h4, of_decide_eq_true h5, of_decide_eq_true h6, hs⟩
theorem z9B_ok : ∀ {vs : List Value} {n : Nat}, z9B vs n = true → Vals ((List.replicate n (0 : Int)).map V.int) vs
  | [], 0, _ => .nil
  | .int i t :: vs, n + 1, h => by
    obtain ⟨h1, h2⟩ := Bool.and_eq_true_iff.mp (show (decide (i = 0) && z9B vs n) = true from h)
    have e := of_decide_eq_true h1
    subst e
    exact .cons ⟨t, rfl⟩ (z9B_ok h2)
theorem plB_ok {p : Addr} (h : plB K p = true) : WT K p ((List.replicate 9 (0 : Int)).map V.int) := by
  unfold plB at h
  split at h
  · rename_i vs e
    exact itsOf_ok e (z9B_ok h)
  · cases h
theorem rtB_ok (h : rtB K = true) : WT K (gN K) [.int 0, .int 0, .ref (pAt K)] := by
  unfold rtB at h
  split at h
  · rename_i i ti j tj p e
    obtain ⟨h1, h⟩ := Bool.and_eq_true_iff.mp h
    obtain ⟨h2, h3⟩ := Bool.and_eq_true_iff.mp h
    have e3 := of_decide_eq_true h3
    have e1 := of_decide_eq_true h1
    have e2 := of_decide_eq_true h2
    subst e1 e2
    rw [← e3]
    exact itsOf_ok e (.cons ⟨ti, rfl⟩ (.cons ⟨tj, rfl⟩ (.cons rfl .nil)))
  · cases h
theorem excB_ok {D : Addr} (h : excB K D = true) : ExcC K D := by
  obtain ⟨h1, h⟩ := Bool.and_eq_true_iff.mp h
  obtain ⟨h2, h⟩ := Bool.and_eq_true_iff.mp h
  obtain ⟨h3, h⟩ := Bool.and_eq_true_iff.mp h
  obtain ⟨h4, h⟩ := Bool.and_eq_true_iff.mp h
  obtain ⟨h5, h⟩ := Bool.and_eq_true_iff.mp h
  obtain ⟨h6, h⟩ := Bool.and_eq_true_iff.mp h
  obtain ⟨h7, h8⟩ := Bool.and_eq_true_iff.mp h
  exact ⟨of_decide_eq_true h1, of_decide_eq_true h2, of_decide_eq_true h3, h4, of_decide_eq_true h5, of_decide_eq_true h6, of_decide_eq_true h7, of_decide_eq_true h8⟩
structure CisN (K : PySem.W.Frag) (j : Nat) : Prop where
  ex : ExcC K (He.ga K (clsN j))
  is : ∀ i, i < 12 → PySem.W.kitOne K (.ref (He.ga K (clsN j))) (.ref (He.ga K (clsN i))) = some (decide (i = j))
  ve : PySem.W.kitOne K (.ref (He.ga K (clsN j))) (.type "ValueError") = some true
  still : PySem.W.exmOne K (.ref (He.ga K (clsN j))) (.ref (He.ga K "StillError")) = some true
theorem cisB_ok {j : Nat} (h : cisB K j = true) : CisN K j := by
  obtain ⟨h1, h⟩ := Bool.and_eq_true_iff.mp h
  obtain ⟨h2, h⟩ := Bool.and_eq_true_iff.mp h
  obtain ⟨h3, h4⟩ := Bool.and_eq_true_iff.mp h
  exact ⟨excB_ok h1, fun i hi => of_decide_eq_true (List.all_eq_true.mp h2 i (List.mem_range.mpr hi)), of_decide_eq_true h3, of_decide_eq_true h4⟩
theorem ndB_ok : ∀ {l : List Addr}, ndB l = true → l.Nodup
  | [], _ => List.nodup_nil
  | a :: l, h => by
    obtain ⟨h1, h2⟩ := Bool.and_eq_true_iff.mp (show ((l.all fun b => decide (a ≠ b)) && ndB l) = true from h)
    exact List.nodup_cons.mpr ⟨fun m => of_decide_eq_true (List.all_eq_true.mp h1 a m) rfl, ndB_ok h2⟩
theorem isStr_no {v : Value} {z : Str} (h : keyW v = true) (h1 : ("put" : Str) ≠ z) (h2 : ("drop" : Str) ≠ z) (h3 : ("add" : Str) ≠ z) (h4 : ("if" : Str) ≠ z) : v.isStr z = false := by
  unfold keyW at h
  split at h
  · rename_i x t
    have : x ≠ z := by
      simp only [Bool.or_eq_true, beq_iff_eq] at h
      rcases h with e | e | e | e
      · rw [e]; exact h1
      · rw [e]; exact h2
      · rw [e]; exact h3
      · rw [e]; exact h4
    simpa [Value.isStr] using this
  · cases h
theorem bnoB_ok (h : bnoB K = true) {z : Str} (h1 : ("put" : Str) ≠ z) (h2 : ("drop" : Str) ≠ z) (h3 : ("add" : Str) ≠ z) (h4 : ("if" : Str) ≠ z) : PySem.W.nsIn K (gB K) z = some none := by
  unfold bnoB at h
  split at h
  · rename_i oc od es n sl lk
    unfold PySem.W.nsIn
    rw [lk]
    have a : ∀ e ∈ es.toList, e.refKey = false ∧ e.key.isStr z = false := fun e he => by
      obtain ⟨q1, q2⟩ := Bool.and_eq_true_iff.mp (List.all_eq_true.mp h e he)
      exact ⟨(by
        cases hb : e.refKey with
        | false => rfl
        | true => rw [hb] at q1; cases q1), isStr_no q2 h1 h2 h3 h4⟩
    have f : es.toList.find? (·.key.isStr z) = none := List.find?_eq_none.mpr fun e he => by rw [(a e he).2]; decide
    have g : es.toList.any (·.refKey) = false := List.any_eq_false.mpr fun e he => by rw [(a e he).1]; decide
    simp only [f, g]
    rfl
  · cases h
end
end S02

set_option Elab.async false
set_option linter.all false
set_option maxRecDepth 100000
set_option maxHeartbeats 4000000
/-! ### the end -/
namespace S02
open PySem PySem.Spec PyProof.Rows L2 LamX K5 SupX
section
variable {P : Program} {w : World} {K : PySem.W.Frag} {h : Heap} {mg : Str → Option Value}
theorem cls_at : ∀ i, i < 12 → (adOf K).c (i + 2) = He.ga K (clsN i)
  | 0, _ => rfl
  | 1, _ => rfl
  | 2, _ => rfl
  | 3, _ => rfl
  | 4, _ => rfl
  | 5, _ => rfl
  | 6, _ => rfl
  | 7, _ => rfl
  | 8, _ => rfl
  | 9, _ => rfl
  | 10, _ => rfl
  | 11, _ => rfl
  | n + 12, h => absurd h (by omega)
theorem cis_of {j : Nat} (hj : j < 12) (c : CisN K j) : Cis K (adOf K) ((adOf K).c (j + 2)) j := by
  rw [cls_at j hj]
  exact ⟨c.ex, hj, fun i hi => by rw [cls_at i hi]; exact c.is i hi, c.ve⟩
theorem still_of {j : Nat} (hj : j < 12) (c : CisN K j) : PySem.W.exmOne K (.ref ((adOf K).c (j + 2))) (.ref ((adOf K).c 1)) = some true := by
  rw [cls_at j hj]
  exact c.still
theorem ex_of (hf : P.main.file = ("/claim/cut.py" : Str)) (X : K.In h) (G : h.Ns mainGlobals mg) (c : SaysY fa fn ts tf exB fy w h K) : Ex P w K mg (adOf K) (gB K) (gI K "BadText") (gI K "BadDeal") ∧ Rfd K (adOf K) ((adOf K).c 12) "BadText" (some "row") ∧ Rfd K (adOf K) ((adOf K).c 3) "BadHand" none ∧ Rfd K (adOf K) ((adOf K).c 2) "BadDeal" (some "place") ∧ (tfL.map fun p => (He.cT K p).2).Nodup := by
  obtain ⟨m1, m⟩ := Bool.and_eq_true_iff.mp c.x.more
  obtain ⟨b1, m1⟩ := Bool.and_eq_true_iff.mp m1
  obtain ⟨b2, m1⟩ := Bool.and_eq_true_iff.mp m1
  obtain ⟨b3, b4⟩ := Bool.and_eq_true_iff.mp m1
  obtain ⟨m2, m⟩ := Bool.and_eq_true_iff.mp m
  obtain ⟨bo, ns⟩ := Bool.and_eq_true_iff.mp m2
  obtain ⟨ini, m⟩ := Bool.and_eq_true_iff.mp m
  obtain ⟨m, et⟩ := Bool.and_eq_true_iff.mp m
  obtain ⟨ec0, m⟩ := Bool.and_eq_true_iff.mp m
  obtain ⟨ec1, ecT⟩ := Bool.and_eq_true_iff.mp m
  have ini2 : ∀ p ∈ icl, initB K p.1 p.2.1 = true ∧ clsB K p.1 p.2.2 = true := fun p hp => Bool.and_eq_true_iff.mp (List.all_eq_true.mp ini p hp)
  obtain ⟨i1, k1⟩ := ini2 ("BadDeal", "BadDeal.__init__", "place") List.mem_cons_self
  obtain ⟨i2, k2⟩ := ini2 ("BadText", "BadText.__init__", "row") (List.mem_cons_of_mem _ List.mem_cons_self)
  have cy : [fnY1 K "BadDeal", fnY1 K "BadText"] = fy := c.y
  obtain ⟨y1, cy⟩ := List.cons.inj cy
  obtain ⟨y2, _⟩ := List.cons.inj cy
  have d := c.x.t.d
  obtain ⟨es1, n1, D1⟩ := c.x.t.tab 0 (t := ((fun K => He.ga K "BOUNDS"), ["put", "drop", "add", "if"])) rfl
  have hsup := He.free_ok X G (d.fact _ (f := .free "super") fact_super)
  have C := clsB_ok (mg := mg) hsup k1
  have C2 := clsB_ok (mg := mg) hsup k2
  have c0 := cisB_ok ec0
  have c1 := cisB_ok ec1
  have cT := cisB_ok ecT
  refine ⟨⟨He.glo_ok X G (d.fact _ (f := .glo "BOUNDS") fact_bounds), ⟨es1, n1, D1⟩, fun q => ?_, fun z hz => bnoB_ok bo (hz (.put 0 0 0)) (hz (.drop 0)) (hz (.add 0 0)) (hz (.iff 0 none)), of_decide_eq_true ns, initB_ok hf y1 i1, C, He.str_ok X G (d.fact _ (f := .str "FIGURES" "0123456789") fact_fig), initB_ok hf y2 i2, C2⟩,
    ⟨⟨10, cis_of (by decide) cT, rfl⟩, by decide +kernel, still_of (by decide) cT, (fun z => by cases z), fun f z => by cases z; exact ⟨.inr (.inr ⟨rfl, rfl⟩), ⟨cT.ex.hg, cT.ex.hk, cT.ex.hs, cT.ex.hd⟩, C2.no⟩⟩,
    ⟨⟨1, cis_of (by decide) c1, rfl⟩, by decide +kernel, still_of (by decide) c1, (fun _ => by decide), fun f z => by cases z⟩,
    ⟨⟨0, cis_of (by decide) c0, rfl⟩, by decide +kernel, still_of (by decide) c0, (fun z => by cases z), fun f z => by cases z; exact ⟨.inl ⟨rfl, rfl⟩, ⟨c0.ex.hg, c0.ex.hk, c0.ex.hs, c0.ex.hd⟩, C.no⟩⟩, ndB_ok et⟩
  cases q with
  | put => exact boundsB_ok b1
  | drop => exact boundsB_ok b2
  | add => exact boundsB_ok b3
  | iff => exact boundsB_ok b4
end
theorem law_end {w : World} {K : PySem.W.Frag} {mg : Str → Option Value} {fa' : Addr} {h : Heap} (X : K.In h) (G : h.Ns mainGlobals mg) (c : SaysY fa fn ts tf exB fy w h K) (hfa : mg "law" = some (.ref fa')) :
    LawAtS PySem.Challenge.rw_stillcopy_k19_texts_refused w K CX0 15 63 "_law_script" mg fa' h := by
  have T := txt_of X G c
  obtain ⟨EX, RT, RH, RD, nd⟩ := ex_of (P := PySem.Challenge.rw_stillcopy_k19_texts_refused.prog) (by rfl) X G c
  have e := hfa.symm.trans T.law.at_
  cases e
  obtain ⟨fd, F⟩ := T.law.fn
  have F2 := F
  obtain ⟨oc, od, kV, doc, pm, an, cdv, ct, osl, rfl, lk, hcd⟩ := F2.ex
  have mem : ∀ {p : Addr × Addr} {Y : Addr × Addr → Prop}, (∀ q ∈ tf, Y (He.cT K q)) → p ∈ tf.map (He.cT K) → Y p := fun y hp => by
    obtain ⟨q, hq, e⟩ := List.mem_map.mp hp
    rw [← e]
    exact y q hq
  have nds : [(He.cT K ("read_row", none)).2, (He.cT K ("_law_told", none)).2].Nodup := nd
  obtain ⟨n1, _⟩ := List.nodup_cons.mp nds
  refine ⟨PySem.W.fnOf "law" "law" (defArgs s_law) (defBody s_law) (defScope s_law) .none kV doc pm an cdv ct, tf.map (He.cT K), spLaw K (He.cT K ("read_row", none)).2 (He.cT K ("_law_told", none)).2, fun p hp => mem (Y := fun p => h.get? p.2 = some { cls := .none, data := .fields #[] }) (fun q hq => c.x.empty q hq) hp,
    fun p hp => mem (Y := fun p => K.lookup p.2 = none) (fun q hq => c.x.out q hq) hp, fun p hp => mem (Y := fun p => PySem.W.CodeHd h p.1 p.2) (fun q hq => PySem.W.codeHd_of_K X (c.x.hd q hq)) hp, fun s u => .of_eq rfl, fun H a ns hl _ hT hS => ?_, fun base KX G hTB => ?_⟩
  · have emp : ∀ q ∈ tf, H (He.cT K q).2 = some (.tbl #[]) := fun q hq => hT _ (List.mem_map.mpr ⟨q, hq, rfl⟩)
    refine ⟨a, ns, rfl, hS, hl, fun P hP => ?_, fun p hp => ?_, fun _ => rfl⟩
    · rw [List.mem_singleton.mp hP]
      exact ⟨#[], emp ("read_row", none) (by decide), by simp only [PySem.TriplesOk]⟩
    · rw [List.mem_singleton.mp hp]
      exact ⟨#[], emp ("_law_told", none) (by decide), (by simp only [PySem.TriplesOk]), fun pos cv hc => by cases hc⟩
  · have tb : ∀ q ∈ tf, LamX.TabB base mg (He.cT K q).1 (He.cT K q).2 := fun q hq => hTB _ (List.mem_map.mpr ⟨q, hq, rfl⟩)
    have tg : ∀ q ∈ tf, GxR.TabB base mg (He.cT K q).1 (He.cT K q).2 := fun q hq => ⟨(tb q hq).code, (tb q hq).bm, (tb q hq).gP⟩
    exact ok_law (P := PySem.Challenge.rw_stillcopy_k19_texts_refused.prog) (w := w) (base := base) T EX (by decide +kernel) (tg ("read_row", none) (by decide)) (tb ("_law_told", none) (by decide)) (fun z => n1 (List.mem_singleton.mpr z.symm)) RT RH RD F
end S02

set_option Elab.async false
set_option maxRecDepth 100000
open PySem PySem.W PySem.Calls PyProof.Rows
set_option maxHeartbeats 0 in
theorem PySem.Challenge.cw_stillcopy_k19_texts_refused_holds : PySem.Challenge.rw_stillcopy_k19_texts_refused.Holds := by
  w_on; o_law
  refine HandSHeadRun.head_any (r := (PySem.W.OpenLaw.row PySem.Challenge.rw_stillcopy_k19_texts_refused)) (q := PySem.W.view (PySem.W.OpenLaw.row PySem.Challenge.rw_stillcopy_k19_texts_refused).prog [58]) (H := S02.hk) (ob := S02.ob) (M := 12000) (loose := S02.loose) (d := HandSHeadRun.topDef (PySem.W.OpenLaw.row PySem.Challenge.rw_stillcopy_k19_texts_refused).prog 58) (kwd := []) S02.ob_eq
    (by kernel_rfl) (fun s => by kernel_rfl) S02.run (by kernel_rfl) (by kernel_rfl) (by kernel_rfl) (by rfl) (by first | assumption | decide +kernel) (by decide +kernel) ⟨rfl, rfl, rfl, rfl, rfl, by decide +kernel⟩ ?hw ?hc
  case hw => w_witness2
  case hc =>
    refine LamX.walk_ofTsE (l := PySem.Challenge.rw_stillcopy_k19_texts_refused) (n := 63) (k := 15) (x := "_law_script") (CX := fun _ => L2.CX0) rfl (by decide) (by kernel_rfl) ⟨rfl, by decide, by decide⟩ ?F (fun _ _ _ _ _ z => z)
    intro w mg fa h Y G hmg0
    obtain ⟨K, KX, c⟩ := Y
    have hmg : mg ("law" : PySem.Str) = some (.ref fa) := by
      have e : (HandSHeadRun.topDef (PySem.W.OpenLaw.row PySem.Challenge.rw_stillcopy_k19_texts_refused).prog 58).name = ("law" : PySem.Str) := by kernel_rfl
      rw [← e]
      exact hmg0
    exact ⟨K, KX, S02.law_end KX G c hmg⟩
