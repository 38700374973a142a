import PyProof.Rows.All
import Wide.All
import OpenK.AllK
import Wide.FinOn
import HandS.Words
import HandS.Small
import HandS.HeadHook4
import HandS.HeadWalk
import HandS.Head0
import HandS.Head1
import HandS.Head2
import HandS.ForMost
import HandS.ForExc
import HandS.ExcCtx
import HandS.HotCalls
import HandS.ExcIs
import HandS.IsInst
import HandS.Lambda
import HandS.EndTab
import HandS.TupAny
import HandS.Conv
import HandS.Wide
import HandS.Style
import KE.GoesEnum
import KE.KDictPairs
import HandS.ExcInit
import KE.KExcSuper
import KE.KSuper
import HandS.ExcOwn
import HandS.GenList
import HandS.Iter
import PyProof.GenArm
import PyProof.GenComp
import HandS.AnyAll
import PyProof.TupleOfGen
import HandS.OwnEq
import HandS.CallLocal
import HandS.Codes
import HandS.NoneIn
import HandS.Star
import HandS.ExcField
import HandS.FStr
import HandS.More
import KE.KExcIs
import HandS.Flow
import HandS.Walk
import HandS.SetFor
import HandS.DictComp
import HandS.SetBool
import HandS.Strs
import HandS.WordsDict
import HandS.DictEq
import HandS.DeepEq
import PySem.Challenge.RW_stillcopy_k09_whole_copies_of_one_moment
set_option Elab.async false
set_option linter.all false
set_option maxRecDepth 100000
set_option maxHeartbeats 2000000
namespace S02
open PySem PySem.Spec PyProof.Rows L2 LamX
def top (i : Nat) : Stmt := PySem.Challenge.pw_stillcopy_k09_whole_copies_of_one_moment.main.body.getD i (.Pass ⟨0, 0, 0, 0⟩)
abbrev s_within : Stmt := top 25
abbrev s_check_hand : Stmt := top 31
abbrev s_check_key : Stmt := top 32
abbrev s_is_deed : Stmt := top 33
abbrev s_check_deal : Stmt := top 34
abbrev s_is_shown : Stmt := top 35
abbrev s_shown_worth : Stmt := top 36
abbrev s_put_row : Stmt := top 37
abbrev s_drop_row : Stmt := top 38
abbrev s_add_to_row : Stmt := top 39
abbrev s_does_show : Stmt := top 40
abbrev s_rows_behind : Stmt := top 42
abbrev s_entry_block : Stmt := top 50
abbrev s_page_block : Stmt := top 51
abbrev s_check_page : Stmt := top 54
abbrev s_is_too_heavy : Stmt := top 59
abbrev s_check_block : Stmt := top 60
abbrev s_begun : Stmt := top 63
abbrev s_take : Stmt := top 64
abbrev s_store : Stmt := top 65
abbrev s_again : Stmt := top 66
abbrev s_seen : Stmt := top 67
abbrev s_tried : Stmt := top 68
abbrev s_deal : Stmt := top 69
abbrev s_whole : Stmt := top 70
abbrev s_deed : Stmt := top 71
abbrev s_drawn : Stmt := top 72
abbrev s_group : Stmt := top 73
abbrev s_event : Stmt := top 74
abbrev s_behind : Stmt := top 75
abbrev s_do : Stmt := top 76
abbrev s_joined : Stmt := top 77
abbrev s_page : Stmt := top 78
abbrev s_law : Stmt := top 79
abbrev s_BadDeal___init__ : Stmt := inClass (top 3) 0
abbrev s_Behind___init__ : Stmt := inClass (top 10) 0
abbrev s_Copy___init__ : Stmt := inClass (top 27) 0
abbrev s_Copy_page_of : Stmt := inClass (top 27) 1
abbrev s_Copy_follow : Stmt := inClass (top 27) 2
abbrev s_Copy_let_go : Stmt := inClass (top 27) 3
abbrev s_Shelf___init__ : Stmt := inClass (top 28) 0
abbrev s_Shelf_begin : Stmt := inClass (top 28) 1
abbrev s_Shelf_find_copy : Stmt := inClass (top 28) 2
abbrev s_Shelf_read_out : Stmt := inClass (top 28) 3
abbrev s_Shelf_give_up : Stmt := inClass (top 28) 4
abbrev s_Shelf_follow : Stmt := inClass (top 28) 5
abbrev s_Shelf_listed : Stmt := inClass (top 28) 6
abbrev s_Shelf_count_aside : Stmt := inClass (top 28) 7
abbrev s_Table___init__ : Stmt := inClass (top 44) 0
abbrev s_Table_twin : Stmt := inClass (top 44) 1
abbrev s_Table_take : Stmt := inClass (top 44) 2
abbrev s_Table_take_deal : Stmt := inClass (top 44) 3
abbrev s_Table_told_of : Stmt := inClass (top 44) 4
abbrev s_Table_told_whole : Stmt := inClass (top 44) 5
abbrev s_Table_last_letter : Stmt := inClass (top 44) 6
abbrev s_Table_page_rows : Stmt := inClass (top 44) 7
abbrev s_Table_hand_rows : Stmt := inClass (top 44) 8
abbrev s_Table_kept : Stmt := inClass (top 44) 9
abbrev s_Table_shown : Stmt := inClass (top 44) 10
abbrev s_Table_unlike : Stmt := inClass (top 44) 11
abbrev s_Table_fill : Stmt := inClass (top 44) 12
abbrev s_Table_shed : Stmt := inClass (top 44) 13
abbrev s_Store___init__ : Stmt := inClass (top 52) 0
abbrev s_Store_claim : Stmt := inClass (top 52) 1
abbrev s_Store_put : Stmt := inClass (top 52) 2
abbrev s_Store_check_held : Stmt := inClass (top 52) 3
abbrev s_Store_write_root : Stmt := inClass (top 52) 4
abbrev s_Store_stored_table : Stmt := inClass (top 52) 5
abbrev s_Store_last_entries : Stmt := inClass (top 52) 6
abbrev s_Store_put_aside : Stmt := inClass (top 52) 7
abbrev s_Store_gathered_pages : Stmt := inClass (top 52) 8
abbrev s_Lead___init__ : Stmt := inClass (top 55) 0
abbrev s_Lead_known : Stmt := inClass (top 55) 1
abbrev s_Lead_clock : Stmt := inClass (top 55) 2
abbrev s_Lead_deals : Stmt := inClass (top 55) 3
abbrev s_Lead_deal : Stmt := inClass (top 55) 4
abbrev s_Lead_tick : Stmt := inClass (top 55) 5
abbrev s_Lead_read : Stmt := inClass (top 55) 6
abbrev s_Lead_whole : Stmt := inClass (top 55) 7
abbrev s_Lead_tidy : Stmt := inClass (top 55) 8
abbrev s_Lead_kept_rows : Stmt := inClass (top 55) 9
abbrev s_Lead_copy : Stmt := inClass (top 55) 10
abbrev s_Lead_read_page : Stmt := inClass (top 55) 11
abbrev s_Lead_close : Stmt := inClass (top 55) 12
abbrev s_Lead_open_copies : Stmt := inClass (top 55) 13
abbrev s_Lead_room : Stmt := inClass (top 55) 14
abbrev s_Lead_letters : Stmt := inClass (top 55) 15
abbrev s_Lead_heard : Stmt := inClass (top 55) 16
abbrev s_Lead_check_house : Stmt := inClass (top 55) 17
abbrev s_Lead_check_group : Stmt := inClass (top 55) 18
abbrev s_Lead_change_over : Stmt := inClass (top 55) 19
abbrev s_Disk___init__ : Stmt := inClass (top 61) 0
abbrev s_Disk_write : Stmt := inClass (top 61) 1
abbrev s_Disk_settle : Stmt := inClass (top 61) 2
abbrev s_Disk_read : Stmt := inClass (top 61) 3
abbrev s_Disk_arm : Stmt := inClass (top 61) 4
abbrev s_Disk_stop : Stmt := inClass (top 61) 5
abbrev s_Disk_again : Stmt := inClass (top 61) 6
abbrev s_Disk_settled : Stmt := inClass (top 61) 7
abbrev s_Disk_check_running : Stmt := inClass (top 61) 8
abbrev s_Disk_count_deed : Stmt := inClass (top 61) 9
end S02

set_option Elab.async false
set_option linter.all false
set_option maxRecDepth 100000
set_option maxHeartbeats 2000000
/-! ### what the head tells beside names, as Boolean facts -/
namespace S02
open PySem PySem.Spec PyProof.Rows L2 LamX
section
variable {K : PySem.W.Frag}
def itsOf (K : PySem.W.Frag) (a : Addr) : Option (List Value) := match K.lookup a with
  | some ⟨.type c, _, .seq its _, _⟩ => (if c = "tuple" ∧ its.size ≤ 1000 then some its.toList else none)
  | _ => none
def prB (K : PySem.W.Frag) (v : Value) (p : Int × Int) : Bool := match v with
  | .ref a => (match itsOf K a with
    | some [.int i _, .int j _] => decide (i = p.1) && decide (j = p.2)
    | _ => false)
  | _ => false
def prsB (K : PySem.W.Frag) : List Value → List (Int × Int) → Bool
  | [], [] => true
  | v :: vs, p :: ps => prB K v p && prsB K vs ps
  | _, _ => false
def bdB (K : PySem.W.Frag) (b : Addr) (l : List (Int × Int)) : Bool := match itsOf K b with
  | some vs => prsB K vs l
  | none => false
def vA (K : PySem.W.Frag) (B : Addr) (x : Str) : Addr := match PySem.W.nsIn K B x with
  | some (some (.ref a)) => a
  | _ => 0
def isA (K : PySem.W.Frag) (B : Addr) (x : Str) (a : Addr) : Bool := decide (PySem.W.nsIn K B x = some (some (.ref a)))
abbrev gB (K : PySem.W.Frag) : Addr := He.ga K "BOUNDS"
abbrev gC (K : PySem.W.Frag) : Addr := He.ga K "ACTIONS"
abbrev gX (K : PySem.W.Frag) : Addr := He.ga K "BadDeal"
abbrev gI (K : PySem.W.Frag) : Addr := He.ma K (gX K) "__init__"
def boundsB (K : PySem.W.Frag) (x : Str) (l : List (Int × Int)) : Bool := isA K (gB K) x (vA K (gB K) x) && bdB K (vA K (gB K) x) l
abbrev FnY : Type := Option (Str × Str × Arguments × FuncBody × Scope × Addr × List Str × Value × Addr)
def fnY (K : PySem.W.Frag) : FnY := match K.lookup (gI K) with
  | some ⟨_, _, .func f, _⟩ => some (f.name, f.qualname, f.params, f.body, f.scope, f.globals, f.closure.map (·.1), f.defaults, f.builtins)
  | _ => none
def cellB (K : PySem.W.Frag) (l : List (Str × Addr)) : Bool := match l with
  | [(_, c)] => (match K.lookup c with
    | some ⟨_, _, .cell (some (.ref D)), _⟩ => decide (D = gX K)
    | _ => false)
  | _ => false
def fileB (K : PySem.W.Frag) (c : Value) : Bool := match c with
  | .ref a => (match K.lookup a with
    | some ⟨_, _, .fields vs, _⟩ => (match (vs[2]? : Option Value) with
      | some (Value.str file _) => ("/claim/cut.py" : Str) == file
      | _ => false)
    | _ => false)
  | _ => false
def funB (K : PySem.W.Frag) : Bool := match K.lookup (gI K) with
  | some ⟨_, _, .func f, _⟩ => cellB K f.closure && (PySem.W.codeIn K f.code "BadDeal.__init__" && fileB K f.code)
  | _ => false
def initB (K : PySem.W.Frag) : Bool := funB K && (decide (PySem.W.findIn K (.ref (gX K)) "__init__" = some (some (.ref (gI K)))) && decide (PySem.W.typeIn K (.ref (gI K)) = some (.type "function")))
def slB (l : List (Option Value)) : Bool := match l with
  | [_, _, _, _, some (Value.builtin n), _] => decide (n = "ValueError.__new__")
  | _ => false
def mroB (C : Addr) (l : List Value) : Bool := match l with
  | .ref D :: bm => decide (D = C) && PySem.HandSPX.refsVE bm
  | _ => false
def cdB (C : Addr) (cd : ClassData) (sl : Array (Option Value)) : Bool := mroB C cd.mro && (cd.hasDict && (!cd.hasDel && slB sl.toList))
def clO (K : PySem.W.Frag) (C : Addr) : Bool := match K.lookup C with
  | some ⟨.type t, _, .cls cd, sl⟩ => decide (t = "type") && cdB C cd sl
  | _ => false
def oexB (K : PySem.W.Frag) (C : Addr) : Bool := clO K C && (decide (PySem.W.findIn K (.ref C) "__setattr__" = some (some (.builtin "object.__setattr__"))) && (decide (PySem.W.subIn K (.ref C) (.type "BaseException") = some true) && (decide (PySem.W.typeIn K (.ref C) = some (.type "type")) && PySem.W.keepIn K (.ref C))))
def clsB (K : PySem.W.Frag) : Bool := oexB K (gX K) && (decide (PySem.W.mroIn K (gX K) (.ref (gX K)) = some true) && (decide (PySem.W.ks_superIn K (gX K) (gX K) "__init__" = some (some (.builtin "ValueError.__init__"))) &&
  (decide (PySem.W.subIn K (.ref (gX K)) (.type "ValueError") = some true) && (decide (PySem.W.nsIn K PySem.cStatics "thirdparty.any" = some none) && decide (PySem.W.findIn K (.ref (gX K)) "place" = some none)))))
abbrev gN (K : PySem.W.Frag) : Addr := He.ga K "NEW_ROOT"
def z9B : List Value → Nat → Bool
  | [], 0 => true
  | .int i _ :: vs, n + 1 => decide (i = 0) && z9B vs n
  | _, _ => false
def plB (K : PySem.W.Frag) (p : Addr) : Bool := match itsOf K p with
  | some vs => z9B vs 9
  | none => false
def pAt (K : PySem.W.Frag) : Addr := match itsOf K (gN K) with
  | some [_, _, .ref p] => p
  | _ => 0
def rtB (K : PySem.W.Frag) : Bool := match itsOf K (gN K) with
  | some [.int i _, .int j _, .ref p] => decide (i = 0) && (decide (j = 0) && decide (p = pAt K))
  | _ => false
def newB (K : PySem.W.Frag) : Bool := rtB K && plB K (pAt K)
def exB (K : PySem.W.Frag) : Bool := (boundsB K "put" [(0, 31), (0, 999), (0, 1000)] && (boundsB K "drop" [(0, 31)] && (boundsB K "add" [(0, 31), (-999, 999)] && boundsB K "if" [(0, 31), (0, 999)]))) &&
  ((isA K (gC K) "put" (He.ga K "put_row") && (isA K (gC K) "drop" (He.ga K "drop_row") && (isA K (gC K) "add" (He.ga K "add_to_row") && isA K (gC K) "if" (He.ga K "does_show")))) &&
  (initB K && (clsB K && newB K)))
end
section
variable {fa : List He.Fa} {fn : List He.DefD} {ts : List He.Tab} {tf : List He.Defn} {ex : PySem.W.Frag → Bool} {w : World}
def asY (_ : Addr → Option Obj) : List Addr := (List.range 1000).reverse
abbrev kY (g : Addr → Option Obj) : PySem.W.Frag := He.frT g (asY g)
abbrev AlY : Type := He.AlX × FnY
def obsY (fa : List He.Fa) (fn : List He.DefD) (ts : List He.Tab) (tf : List He.Defn) (ex : PySem.W.Frag → Bool) (g : Addr → Option Obj) : AlY := ((He.obsT fa fn ts (kY g), ex (kY g) && He.tabsB g tf (kY g)), fnY (kY g))
theorem says_gen {as : List Addr} {h : Heap} (e1 : He.obsT fa fn ts (He.frT h.get? as) = He.valT fn ts w) (e2 : (ex (He.frT h.get? as) && He.tabsB h.get? tf (He.frT h.get? as)) = true) : He.SaysX fa fn ts tf ex w h (He.frT h.get? as) := by
  obtain ⟨b1, b2⟩ := Bool.and_eq_true_iff.mp e2
  have c : ∀ p ∈ tf, PySem.W.codeHdIn (He.frT h.get? as) (He.cT (He.frT h.get? as) p).1 (He.cT (He.frT h.get? as) p).2 = true ∧ ∃ o, h.get? (He.cT (He.frT h.get? as) p).2 = some o ∧ He.emptyTab o = true := fun p m => by
    obtain ⟨a1, a2⟩ := Bool.and_eq_true_iff.mp (List.all_eq_true.mp b2 p m)
    refine ⟨a1, ?_⟩
    split at a2
    · rename_i o q
      exact ⟨o, q, a2⟩
    · cases a2
  refine ⟨e1, b1, fun p m => (c p m).1, fun p m => ?_, fun p m => ?_⟩
  · obtain ⟨_, o, q, z⟩ := c p m
    exact He.frT_none q z
  · obtain ⟨_, o, q, z⟩ := c p m
    rw [q, He.emptyTab_eq z]
structure SaysY (fa : List He.Fa) (fn : List He.DefD) (ts : List He.Tab) (tf : List He.Defn) (ex : PySem.W.Frag → Bool) (fy : FnY) (w : World) (h : Heap) (K : PySem.W.Frag) : Prop where
  x : He.SaysX fa fn ts tf ex w h K
  y : fnY K = fy
theorem ofY {fy : FnY} {h : Heap} (e : obsY fa fn ts tf ex h.get? = ((He.valT fn ts w, true), fy)) : ∃ K : PySem.W.Frag, K.In h ∧ SaysY fa fn ts tf ex fy w h K := by
  unfold obsY at e
  obtain ⟨e12, e3⟩ := Prod.mk.inj e
  obtain ⟨e1, e2⟩ := Prod.mk.inj e12
  exact ⟨kY h.get?, He.frT_in, ⟨says_gen e1 e2, e3⟩⟩
theorem keepY {fy : FnY} {h h' : Heap} (y : ∃ K : PySem.W.Frag, K.In h ∧ SaysY fa fn ts tf ex fy w h K) (k : ∀ b o, h.get? b = some o → h'.get? b = some o) : ∃ K : PySem.W.Frag, K.In h' ∧ SaysY fa fn ts tf ex fy w h' K := by
  obtain ⟨K, hK, c⟩ := y
  exact ⟨K, PySem.W.Frag.In.keeps hK k, ⟨⟨c.x.t, c.x.more, c.x.hd, c.x.out, fun p m => k _ _ (c.x.empty p m)⟩, c.y⟩⟩
def hookY (fa : List He.Fa) (fn : List He.DefD) (ts : List He.Tab) (tf : List He.Defn) (ex : PySem.W.Frag → Bool) (fy : FnY) : PySem.W.Hook where
  α := AlY
  obs := fun s => obsY fa fn ts tf ex s.heap.get?
  val := fun w => ((He.valT fn ts w, true), fy)
  says := fun w h => ∃ K : PySem.W.Frag, K.In h ∧ SaysY fa fn ts tf ex fy w h K
  of := fun _ _ e => ofY e
  keeps := fun _ _ _ y k => keepY y k
theorem obsY_eq {fy : FnY} {g : Addr → Option Obj} {s : Shared} (h : ∀ a, g a = s.heap.get? a) : obsY fa fn ts tf ex g = (hookY fa fn ts tf ex fy).obs s := by
  have e : g = s.heap.get? := funext h
  rw [e] <;> rfl
end
end S02

set_option Elab.async false
set_option linter.all false
set_option maxRecDepth 100000
set_option maxHeartbeats 0
namespace S02
open PySem PySem.Spec PyProof.Rows L2 LamX
def fn0 : List He.DefD := [⟨("within", none), "within", "within", defArgs s_within, defBody s_within, defScope s_within, [], []⟩, ⟨("check_hand", none), "check_hand", "check_hand", defArgs s_check_hand, defBody s_check_hand, defScope s_check_hand, [], []⟩, ⟨("check_key", none), "check_key", "check_key", defArgs s_check_key, defBody s_check_key, defScope s_check_key, [], []⟩, ⟨("is_deed", none), "is_deed", "is_deed", defArgs s_is_deed, defBody s_is_deed, defScope s_is_deed, [], []⟩, ⟨("check_deal", none), "check_deal", "check_deal", defArgs s_check_deal, defBody s_check_deal, defScope s_check_deal, [], []⟩, ⟨("is_shown", none), "is_shown", "is_shown", defArgs s_is_shown, defBody s_is_shown, defScope s_is_shown, [], []⟩, ⟨("shown_worth", none), "shown_worth", "shown_worth", defArgs s_shown_worth, defBody s_shown_worth, defScope s_shown_worth, [], []⟩, ⟨("put_row", none), "put_row", "put_row", defArgs s_put_row, defBody s_put_row, defScope s_put_row, [], []⟩, ⟨("drop_row", none), "drop_row", "drop_row", defArgs s_drop_row, defBody s_drop_row, defScope s_drop_row, [], []⟩, ⟨("add_to_row", none), "add_to_row", "add_to_row", defArgs s_add_to_row, defBody s_add_to_row, defScope s_add_to_row, [], []⟩, ⟨("does_show", none), "does_show", "does_show", defArgs s_does_show, defBody s_does_show, defScope s_does_show, [], []⟩, ⟨("rows_behind", none), "rows_behind", "rows_behind", defArgs s_rows_behind, defBody s_rows_behind, defScope s_rows_behind, [], []⟩]
def fn1 : List He.DefD := [⟨("entry_block", none), "entry_block", "entry_block", defArgs s_entry_block, defBody s_entry_block, defScope s_entry_block, [], []⟩, ⟨("page_block", none), "page_block", "page_block", defArgs s_page_block, defBody s_page_block, defScope s_page_block, [], []⟩, ⟨("check_page", none), "check_page", "check_page", defArgs s_check_page, defBody s_check_page, defScope s_check_page, [], []⟩, ⟨("is_too_heavy", none), "is_too_heavy", "is_too_heavy", defArgs s_is_too_heavy, defBody s_is_too_heavy, defScope s_is_too_heavy, [], []⟩, ⟨("check_block", none), "check_block", "check_block", defArgs s_check_block, defBody s_check_block, defScope s_check_block, [], []⟩, ⟨("_law_begun", none), "_law_begun", "_law_begun", defArgs s_begun, defBody s_begun, defScope s_begun, [], []⟩, ⟨("_law_take", none), "_law_take", "_law_take", defArgs s_take, defBody s_take, defScope s_take, [], []⟩, ⟨("_law_store", none), "_law_store", "_law_store", defArgs s_store, defBody s_store, defScope s_store, [], []⟩, ⟨("_law_again", none), "_law_again", "_law_again", defArgs s_again, defBody s_again, defScope s_again, [], []⟩, ⟨("_law_seen", none), "_law_seen", "_law_seen", defArgs s_seen, defBody s_seen, defScope s_seen, [], []⟩, ⟨("_law_tried", none), "_law_tried", "_law_tried", defArgs s_tried, defBody s_tried, defScope s_tried, [], []⟩, ⟨("_law_deal", none), "_law_deal", "_law_deal", defArgs s_deal, defBody s_deal, defScope s_deal, [], []⟩]
def fn2 : List He.DefD := [⟨("_law_whole", none), "_law_whole", "_law_whole", defArgs s_whole, defBody s_whole, defScope s_whole, [], []⟩, ⟨("_law_deed", none), "_law_deed", "_law_deed", defArgs s_deed, defBody s_deed, defScope s_deed, [], []⟩, ⟨("_law_drawn", none), "_law_drawn", "_law_drawn", defArgs s_drawn, defBody s_drawn, defScope s_drawn, [], []⟩, ⟨("_law_group", none), "_law_group", "_law_group", defArgs s_group, defBody s_group, defScope s_group, [], []⟩, ⟨("_law_event", none), "_law_event", "_law_event", defArgs s_event, defBody s_event, defScope s_event, [], []⟩, ⟨("_law_behind", none), "_law_behind", "_law_behind", defArgs s_behind, defBody s_behind, defScope s_behind, [], []⟩, ⟨("_law_do", none), "_law_do", "_law_do", defArgs s_do, defBody s_do, defScope s_do, [], []⟩, ⟨("_law_joined", none), "_law_joined", "_law_joined", defArgs s_joined, defBody s_joined, defScope s_joined, [], []⟩, ⟨("_law_page", none), "_law_page", "_law_page", defArgs s_page, defBody s_page, defScope s_page, [], []⟩, ⟨("law", none), "law", "law", defArgs s_law, defBody s_law, defScope s_law, [], []⟩, ⟨("Copy", some "__init__"), "__init__", "Copy.__init__", defArgs s_Copy___init__, defBody s_Copy___init__, defScope s_Copy___init__, [], []⟩, ⟨("Copy", some "page_of"), "page_of", "Copy.page_of", defArgs s_Copy_page_of, defBody s_Copy_page_of, defScope s_Copy_page_of, [], []⟩]
def fn3 : List He.DefD := [⟨("Copy", some "follow"), "follow", "Copy.follow", defArgs s_Copy_follow, defBody s_Copy_follow, defScope s_Copy_follow, [], []⟩, ⟨("Copy", some "let_go"), "let_go", "Copy.let_go", defArgs s_Copy_let_go, defBody s_Copy_let_go, defScope s_Copy_let_go, [], []⟩, ⟨("Shelf", some "__init__"), "__init__", "Shelf.__init__", defArgs s_Shelf___init__, defBody s_Shelf___init__, defScope s_Shelf___init__, [], []⟩, ⟨("Shelf", some "begin"), "begin", "Shelf.begin", defArgs s_Shelf_begin, defBody s_Shelf_begin, defScope s_Shelf_begin, [], []⟩, ⟨("Shelf", some "find_copy"), "find_copy", "Shelf.find_copy", defArgs s_Shelf_find_copy, defBody s_Shelf_find_copy, defScope s_Shelf_find_copy, [], []⟩, ⟨("Shelf", some "read_out"), "read_out", "Shelf.read_out", defArgs s_Shelf_read_out, defBody s_Shelf_read_out, defScope s_Shelf_read_out, [], []⟩, ⟨("Shelf", some "give_up"), "give_up", "Shelf.give_up", defArgs s_Shelf_give_up, defBody s_Shelf_give_up, defScope s_Shelf_give_up, [], []⟩, ⟨("Shelf", some "follow"), "follow", "Shelf.follow", defArgs s_Shelf_follow, defBody s_Shelf_follow, defScope s_Shelf_follow, [], []⟩, ⟨("Shelf", some "listed"), "listed", "Shelf.listed", defArgs s_Shelf_listed, defBody s_Shelf_listed, defScope s_Shelf_listed, [], []⟩, ⟨("Shelf", some "count_aside"), "count_aside", "Shelf.count_aside", defArgs s_Shelf_count_aside, defBody s_Shelf_count_aside, defScope s_Shelf_count_aside, [], []⟩, ⟨("Table", some "__init__"), "__init__", "Table.__init__", defArgs s_Table___init__, defBody s_Table___init__, defScope s_Table___init__, [], []⟩, ⟨("Table", some "twin"), "twin", "Table.twin", defArgs s_Table_twin, defBody s_Table_twin, defScope s_Table_twin, [], []⟩]
def fn4 : List He.DefD := [⟨("Table", some "take"), "take", "Table.take", defArgs s_Table_take, defBody s_Table_take, defScope s_Table_take, [], []⟩, ⟨("Table", some "take_deal"), "take_deal", "Table.take_deal", defArgs s_Table_take_deal, defBody s_Table_take_deal, defScope s_Table_take_deal, [], []⟩, ⟨("Table", some "told_of"), "told_of", "Table.told_of", defArgs s_Table_told_of, defBody s_Table_told_of, defScope s_Table_told_of, [], []⟩, ⟨("Table", some "told_whole"), "told_whole", "Table.told_whole", defArgs s_Table_told_whole, defBody s_Table_told_whole, defScope s_Table_told_whole, [], []⟩, ⟨("Table", some "last_letter"), "last_letter", "Table.last_letter", defArgs s_Table_last_letter, defBody s_Table_last_letter, defScope s_Table_last_letter, [], []⟩, ⟨("Table", some "page_rows"), "page_rows", "Table.page_rows", defArgs s_Table_page_rows, defBody s_Table_page_rows, defScope s_Table_page_rows, [], []⟩, ⟨("Table", some "hand_rows"), "hand_rows", "Table.hand_rows", defArgs s_Table_hand_rows, defBody s_Table_hand_rows, defScope s_Table_hand_rows, [], []⟩, ⟨("Table", some "kept"), "kept", "Table.kept", defArgs s_Table_kept, defBody s_Table_kept, defScope s_Table_kept, [], []⟩, ⟨("Table", some "shown"), "shown", "Table.shown", defArgs s_Table_shown, defBody s_Table_shown, defScope s_Table_shown, [], []⟩, ⟨("Table", some "unlike"), "unlike", "Table.unlike", defArgs s_Table_unlike, defBody s_Table_unlike, defScope s_Table_unlike, [], []⟩, ⟨("Table", some "fill"), "fill", "Table.fill", defArgs s_Table_fill, defBody s_Table_fill, defScope s_Table_fill, [], []⟩, ⟨("Table", some "shed"), "shed", "Table.shed", defArgs s_Table_shed, defBody s_Table_shed, defScope s_Table_shed, [], []⟩]
def fn5 : List He.DefD := [⟨("Store", some "__init__"), "__init__", "Store.__init__", defArgs s_Store___init__, defBody s_Store___init__, defScope s_Store___init__, [], []⟩, ⟨("Store", some "claim"), "claim", "Store.claim", defArgs s_Store_claim, defBody s_Store_claim, defScope s_Store_claim, [], []⟩, ⟨("Store", some "put"), "put", "Store.put", defArgs s_Store_put, defBody s_Store_put, defScope s_Store_put, [], []⟩, ⟨("Store", some "check_held"), "check_held", "Store.check_held", defArgs s_Store_check_held, defBody s_Store_check_held, defScope s_Store_check_held, [], []⟩, ⟨("Store", some "write_root"), "write_root", "Store.write_root", defArgs s_Store_write_root, defBody s_Store_write_root, defScope s_Store_write_root, [], []⟩, ⟨("Store", some "stored_table"), "stored_table", "Store.stored_table", defArgs s_Store_stored_table, defBody s_Store_stored_table, defScope s_Store_stored_table, [], []⟩, ⟨("Store", some "last_entries"), "last_entries", "Store.last_entries", defArgs s_Store_last_entries, defBody s_Store_last_entries, defScope s_Store_last_entries, [], []⟩, ⟨("Store", some "put_aside"), "put_aside", "Store.put_aside", defArgs s_Store_put_aside, defBody s_Store_put_aside, defScope s_Store_put_aside, [], []⟩, ⟨("Store", some "gathered_pages"), "gathered_pages", "Store.gathered_pages", defArgs s_Store_gathered_pages, defBody s_Store_gathered_pages, defScope s_Store_gathered_pages, [], []⟩, ⟨("Lead", some "__init__"), "__init__", "Lead.__init__", defArgs s_Lead___init__, defBody s_Lead___init__, defScope s_Lead___init__, [], []⟩, ⟨("Lead", some "known"), "known", "Lead.known", defArgs s_Lead_known, defBody s_Lead_known, defScope s_Lead_known, [], []⟩, ⟨("Lead", some "clock"), "clock", "Lead.clock", defArgs s_Lead_clock, defBody s_Lead_clock, defScope s_Lead_clock, [], []⟩]
def fn6 : List He.DefD := [⟨("Lead", some "deals"), "deals", "Lead.deals", defArgs s_Lead_deals, defBody s_Lead_deals, defScope s_Lead_deals, [], []⟩, ⟨("Lead", some "deal"), "deal", "Lead.deal", defArgs s_Lead_deal, defBody s_Lead_deal, defScope s_Lead_deal, [], []⟩, ⟨("Lead", some "tick"), "tick", "Lead.tick", defArgs s_Lead_tick, defBody s_Lead_tick, defScope s_Lead_tick, [], []⟩, ⟨("Lead", some "read"), "read", "Lead.read", defArgs s_Lead_read, defBody s_Lead_read, defScope s_Lead_read, [], []⟩, ⟨("Lead", some "whole"), "whole", "Lead.whole", defArgs s_Lead_whole, defBody s_Lead_whole, defScope s_Lead_whole, [], []⟩, ⟨("Lead", some "tidy"), "tidy", "Lead.tidy", defArgs s_Lead_tidy, defBody s_Lead_tidy, defScope s_Lead_tidy, [], []⟩, ⟨("Lead", some "kept_rows"), "kept_rows", "Lead.kept_rows", defArgs s_Lead_kept_rows, defBody s_Lead_kept_rows, defScope s_Lead_kept_rows, [], []⟩, ⟨("Lead", some "copy"), "copy", "Lead.copy", defArgs s_Lead_copy, defBody s_Lead_copy, defScope s_Lead_copy, [], []⟩, ⟨("Lead", some "read_page"), "read_page", "Lead.read_page", defArgs s_Lead_read_page, defBody s_Lead_read_page, defScope s_Lead_read_page, [], []⟩, ⟨("Lead", some "close"), "close", "Lead.close", defArgs s_Lead_close, defBody s_Lead_close, defScope s_Lead_close, [], []⟩, ⟨("Lead", some "open_copies"), "open_copies", "Lead.open_copies", defArgs s_Lead_open_copies, defBody s_Lead_open_copies, defScope s_Lead_open_copies, [], []⟩, ⟨("Lead", some "room"), "room", "Lead.room", defArgs s_Lead_room, defBody s_Lead_room, defScope s_Lead_room, [], []⟩]
def fn7 : List He.DefD := [⟨("Lead", some "letters"), "letters", "Lead.letters", defArgs s_Lead_letters, defBody s_Lead_letters, defScope s_Lead_letters, [], []⟩, ⟨("Lead", some "heard"), "heard", "Lead.heard", defArgs s_Lead_heard, defBody s_Lead_heard, defScope s_Lead_heard, [], []⟩, ⟨("Lead", some "check_house"), "check_house", "Lead.check_house", defArgs s_Lead_check_house, defBody s_Lead_check_house, defScope s_Lead_check_house, [], []⟩, ⟨("Lead", some "check_group"), "check_group", "Lead.check_group", defArgs s_Lead_check_group, defBody s_Lead_check_group, defScope s_Lead_check_group, [], []⟩, ⟨("Lead", some "change_over"), "change_over", "Lead.change_over", defArgs s_Lead_change_over, defBody s_Lead_change_over, defScope s_Lead_change_over, [], []⟩, ⟨("Disk", some "__init__"), "__init__", "Disk.__init__", defArgs s_Disk___init__, defBody s_Disk___init__, defScope s_Disk___init__, [], []⟩, ⟨("Disk", some "write"), "write", "Disk.write", defArgs s_Disk_write, defBody s_Disk_write, defScope s_Disk_write, [], []⟩, ⟨("Disk", some "settle"), "settle", "Disk.settle", defArgs s_Disk_settle, defBody s_Disk_settle, defScope s_Disk_settle, [], []⟩, ⟨("Disk", some "read"), "read", "Disk.read", defArgs s_Disk_read, defBody s_Disk_read, defScope s_Disk_read, [], []⟩, ⟨("Disk", some "arm"), "arm", "Disk.arm", defArgs s_Disk_arm, defBody s_Disk_arm, defScope s_Disk_arm, [], []⟩, ⟨("Disk", some "stop"), "stop", "Disk.stop", defArgs s_Disk_stop, defBody s_Disk_stop, defScope s_Disk_stop, [], []⟩, ⟨("Disk", some "again"), "again", "Disk.again", defArgs s_Disk_again, defBody s_Disk_again, defScope s_Disk_again, [], []⟩]
def fn8 : List He.DefD := [⟨("Disk", some "settled"), "settled", "Disk.settled", defArgs s_Disk_settled, defBody s_Disk_settled, defScope s_Disk_settled, [], []⟩, ⟨("Disk", some "check_running"), "check_running", "Disk.check_running", defArgs s_Disk_check_running, defBody s_Disk_check_running, defScope s_Disk_check_running, [], []⟩, ⟨("Disk", some "count_deed"), "count_deed", "Disk.count_deed", defArgs s_Disk_count_deed, defBody s_Disk_count_deed, defScope s_Disk_count_deed, [], []⟩]
def fn : List He.DefD := fn0 ++ (fn1 ++ (fn2 ++ (fn3 ++ (fn4 ++ (fn5 ++ (fn6 ++ (fn7 ++ (fn8))))))))
def fa0 : List He.Fa := [.glo "within", .glo "check_hand", .glo "check_key", .glo "is_deed", .glo "check_deal", .glo "is_shown", .glo "shown_worth", .glo "put_row", .glo "drop_row", .glo "add_to_row", .glo "does_show", .glo "rows_behind", .glo "entry_block", .glo "page_block", .glo "check_page", .glo "is_too_heavy", .glo "check_block", .glo "_law_begun", .glo "_law_take", .glo "_law_store", .glo "_law_again", .glo "_law_seen", .glo "_law_tried", .glo "_law_deal", .glo "_law_whole", .glo "_law_deed", .glo "_law_drawn", .glo "_law_group", .glo "_law_event", .glo "_law_behind"]
def fa1 : List He.Fa := [.glo "_law_do", .glo "_law_joined", .glo "_law_page", .glo "law", .glo "StillError", .glo "BadDeal", .glo "BadHand", .glo "BadLetter", .glo "BadTime", .glo "BadKey", .glo "BadHouse", .glo "NoCopy", .glo "Behind", .glo "BadBlock", .glo "Stopped", .glo "Copy", .glo "Shelf", .glo "Table", .glo "Store", .glo "Lead", .glo "Disk", .exc "BadHand", .exm "BadHand" "StillError" true, .exc "BadLetter", .exm "BadLetter" "StillError" true, .exc "BadTime", .exm "BadTime" "StillError" true, .exc "BadKey", .exm "BadKey" "StillError" true, .exc "BadHouse"]
def fa2 : List He.Fa := [.exm "BadHouse" "StillError" true, .exc "NoCopy", .exm "NoCopy" "StillError" true, .exc "BadBlock", .exm "BadBlock" "StillError" true, .exc "Stopped", .exm "Stopped" "StillError" true, .cls "Copy", .noat "Copy" "aside", .noat "Copy" "number", .noat "Copy" "wanted", .mkr "Copy", .meth "Copy" "page_of", .meth "Copy" "follow", .meth "Copy" "let_go", .cls "Shelf", .noat "Shelf" "begun", .noat "Shelf" "copies", .mkr "Shelf", .meth "Shelf" "begin", .meth "Shelf" "find_copy", .meth "Shelf" "read_out", .meth "Shelf" "give_up", .meth "Shelf" "follow", .meth "Shelf" "listed", .meth "Shelf" "count_aside", .cls "Table", .noat "Table" "hands", .noat "Table" "moment", .noat "Table" "number"]
def fa3 : List He.Fa := [.noat "Table" "rows", .mkr "Table", .meth "Table" "twin", .meth "Table" "take", .meth "Table" "take_deal", .meth "Table" "told_of", .meth "Table" "told_whole", .meth "Table" "last_letter", .meth "Table" "page_rows", .meth "Table" "hand_rows", .meth "Table" "kept", .meth "Table" "shown", .meth "Table" "unlike", .meth "Table" "fill", .meth "Table" "shed", .cls "Store", .noat "Store" "disk", .noat "Store" "root", .noat "Store" "stops", .mkr "Store", .meth "Store" "claim", .meth "Store" "put", .meth "Store" "check_held", .meth "Store" "write_root", .meth "Store" "stored_table", .meth "Store" "last_entries", .meth "Store" "put_aside", .meth "Store" "gathered_pages", .cls "Lead", .noat "Lead" "entries"]
def fa4 : List He.Fa := [.noat "Lead" "followers", .noat "Lead" "houses", .noat "Lead" "shelf", .noat "Lead" "store", .noat "Lead" "table", .mkr "Lead", .meth "Lead" "known", .meth "Lead" "clock", .meth "Lead" "deals", .meth "Lead" "deal", .meth "Lead" "tick", .meth "Lead" "read", .meth "Lead" "whole", .meth "Lead" "tidy", .meth "Lead" "kept_rows", .meth "Lead" "copy", .meth "Lead" "read_page", .meth "Lead" "close", .meth "Lead" "open_copies", .meth "Lead" "room", .meth "Lead" "letters", .meth "Lead" "heard", .meth "Lead" "check_house", .meth "Lead" "check_group", .meth "Lead" "change_over", .cls "Disk", .noat "Disk" "armed_picks", .noat "Disk" "deeds_left", .noat "Disk" "running", .noat "Disk" "stops"]
def fa5 : List He.Fa := [.noat "Disk" "sure", .noat "Disk" "unsure", .mkr "Disk", .meth "Disk" "write", .meth "Disk" "settle", .meth "Disk" "read", .meth "Disk" "arm", .meth "Disk" "stop", .meth "Disk" "again", .meth "Disk" "settled", .meth "Disk" "check_running", .meth "Disk" "count_deed", .int "LAST_KEY" 31, .int "LAST_HAND" 3, .int "LAST_WORTH" 999, .int "LAST_MOMENT" 1000000, .int "PAGES" 9, .int "KEYS_OF_A_PAGE" 4, .int "HANDS_PAGE" 8, .int "MOST_DEEDS" 4, .int "MOST_DEALS" 4, .int "MOST_HOUSES" 3, .int "MOST_ENTRIES" 16, .int "ROOT" 0, .int "FIRST_ENTRY" 1, .int "FIRST_PAGE" 17, .int "BLOCKS" 35, .int "MOST_WEIGHT" 40, .free "ValueError", .free "all"]
def fa6 : List He.Fa := [.free "bool", .free "dict", .free "enumerate", .free "int", .free "isinstance", .free "len", .free "list", .free "max", .free "min", .free "range", .free "sorted", .free "tuple", .free "zip"]
def fa7 : List He.Fa := [.glo "BOUNDS", .glo "ACTIONS", .free "super", .glo "NEW_ROOT"]
def fa : List He.Fa := fa0 ++ (fa1 ++ (fa2 ++ (fa3 ++ (fa4 ++ (fa5 ++ (fa6 ++ (fa7)))))))
def tf : List He.Defn := [("Table", some "page_rows"), ("Table", some "hand_rows"), ("Table", some "shown")]
def ex (_ : PySem.W.Frag) : Bool := true
def ts : List He.Tab := [((fun K => He.ga K "BOUNDS"), ["put", "drop", "add", "if"]), ((fun K => He.ga K "ACTIONS"), ["put", "drop", "add", "if"])]
def fy : FnY := some ("__init__", "BadDeal.__init__", defArgs s_BadDeal___init__, .stmts (defBody s_BadDeal___init__), defScope s_BadDeal___init__, mainGlobals, ["__class__"], .none, builtinsNs)
def loose0 : List PySem.Str := ["within", "check_hand", "check_key", "is_deed", "check_deal", "is_shown", "shown_worth", "put_row", "drop_row", "add_to_row", "does_show", "rows_behind", "entry_block", "page_block", "check_page", "is_too_heavy", "check_block", "_law_begun", "_law_take", "_law_store", "_law_again", "_law_seen", "_law_tried", "_law_deal", "_law_whole", "_law_deed", "_law_drawn", "_law_group", "_law_event", "_law_behind"]
def loose1 : List PySem.Str := ["_law_do", "_law_joined", "_law_page", "StillError", "BadDeal", "BadHand", "BadLetter", "BadTime", "BadKey", "BadHouse", "NoCopy", "Behind", "BadBlock", "Stopped", "Copy", "Shelf", "Table", "Store", "Lead", "Disk", "LAST_KEY", "LAST_HAND", "LAST_WORTH", "LAST_MOMENT", "PAGES", "KEYS_OF_A_PAGE", "HANDS_PAGE", "MOST_DEEDS", "MOST_DEALS", "MOST_HOUSES"]
def loose2 : List PySem.Str := ["MOST_ENTRIES", "BOUNDS", "ACTIONS", "ROOT", "FIRST_ENTRY", "FIRST_PAGE", "NEW_ROOT", "BLOCKS", "MOST_WEIGHT", "_wall"]
def loose : List PySem.Str := loose0 ++ (loose1 ++ (loose2))
abbrev R : PySem.W.OpenRow := PySem.W.OpenLaw.row PySem.Challenge.rw_stillcopy_k09_whole_copies_of_one_moment
abbrev hk : PySem.W.Hook := hookY fa fn ts tf exB fy
def ob (s : PySem.W.SharedT) : AlY := obsY fa fn ts tf exB (HandSHeadRun.getT s)
theorem ob_eq (s : PySem.W.SharedT) : ob s = hk.obs s.abs := obsY_eq (HandSHeadRun.getT_eq s)
theorem runF (w : World) : HandSHeadRun.RunEq R (PySem.W.view R.prog [79]) hk ob 12000 loose (w.withFollow "special-get-raises" false) := by
  intro os
  kernel_rfl
theorem runT (w : World) : HandSHeadRun.RunEq R (PySem.W.view R.prog [79]) hk ob 12000 loose (w.withFollow "special-get-raises" true) := by
  intro os
  kernel_rfl
theorem run (w : World) : HandSHeadRun.RunEq R (PySem.W.view R.prog [79]) hk ob 12000 loose w :=
  PySem.W.byRow2 "special-get-raises" (P := fun w => HandSHeadRun.RunEq R (PySem.W.view R.prog [79]) hk ob 12000 loose w) runF runT w
theorem fact_bounds : fa[193]? = some (.glo "BOUNDS") := rfl
theorem fact_actions : fa[194]? = some (.glo "ACTIONS") := rfl
theorem fact_super : fa[195]? = some (.free "super") := rfl
theorem fact_root : fa[196]? = some (.glo "NEW_ROOT") := rfl
end S02

set_option Elab.async false
set_option linter.all false
set_option maxRecDepth 100000
/-! ### 1. Heaps: what stays behind a deed -/
namespace K5
open PySem PySem.Spec PyProof.Rows L2
/-- objects that deeds may change -/
def Mu : HO → Prop
  | .lst _ => True
  | .dK _ => True
  | .ins _ _ _ => True
  | _ => False
/-- all stays but what may change and lies in F -/
def Kp (F : Addr → Prop) (H G : Hp) : Prop := ∀ b o, H b = some o → (Mu o → ¬ F b) → G b = some o
/-- the same, code tables aside -/
def Kt (F : Addr → Prop) (H G : Hp) : Prop := ∀ b o, H b = some o → (∀ ps, o ≠ .tbl ps) → (Mu o → ¬ F b) → G b = some o
def No : Addr → Prop := fun _ => False
theorem Kp.t {F : Addr → Prop} {H G : Hp} (k : Kp F H G) : Kt F H G := fun b o e _ n => k b o e n
theorem Kp.refl (F : Addr → Prop) (H : Hp) : Kp F H H := fun _ _ e _ => e
theorem Kt.refl (F : Addr → Prop) (H : Hp) : Kt F H H := fun _ _ e _ _ => e
theorem Kp.sub {F F' : Addr → Prop} {H G : Hp} (k : Kp F H G) (s : ∀ b, F b → F' b) : Kp F' H G := fun b o e n => k b o e fun m z => n m (s b z)
theorem Kt.sub {F F' : Addr → Prop} {H G : Hp} (k : Kt F H G) (s : ∀ b, F b → F' b) : Kt F' H G := fun b o e t n => k b o e t fun m z => n m (s b z)
/-- one deed behind another; the second may also change what is new -/
theorem Kp.trans {F F' : Addr → Prop} {H G I : Hp} (k : Kp F H G) (l : Kp F' G I) (s : ∀ b, F' b → F b ∨ H b = none) : Kp F H I := fun b o e n =>
  l b o (k b o e n) fun m z => (s b z).elim (n m) fun q => by rw [q] at e; cases e
theorem Kt.trans {F F' : Addr → Prop} {H G I : Hp} (k : Kt F H G) (l : Kt F' G I) (s : ∀ b, F' b → F b ∨ H b = none) : Kt F H I := fun b o e t n =>
  l b o (k b o e t n) t fun m z => (s b z).elim (n m) fun q => by rw [q] at e; cases e
theorem Kp.new {F : Addr → Prop} {H : Hp} {a : Addr} {o : HO} (h : H a = none) : Kp F H (upd H a o) := fun b u e _ => by rw [upd_ne (ne_of_none e h)]; exact e
theorem Kp.upd {F : Addr → Prop} {H : Hp} {a : Addr} {o o' : HO} (h : H a = some o) (m : Mu o) (f : F a) : Kp F H (upd H a o') := fun b u e n => by
  have ne : b ≠ a := fun z => by
    subst z
    rw [h] at e
    cases e
    exact n m f
  rw [upd_ne ne]
  exact e
theorem Kp.updI {F : Addr → Prop} {H : Hp} {a C dx : Addr} {fs : List (Str × V)} {o' : HO} (h : H a = some (.ins C dx fs)) (f : F a) : Kp F H (L2.upd H a o') := Kp.upd h trivial f
theorem Kp.updL {F : Addr → Prop} {H : Hp} {a : Addr} {xs : List V} {o' : HO} (h : H a = some (.lst xs)) (f : F a) : Kp F H (L2.upd H a o') := Kp.upd h trivial f
theorem Kp.updD {F : Addr → Prop} {H : Hp} {a : Addr} {xs : List (Key × V)} {o' : HO} (h : H a = some (.dK xs)) (f : F a) : Kp F H (L2.upd H a o') := Kp.upd h trivial f
/-- one step more -/
theorem Kp.andI {F : Addr → Prop} {H G : Hp} {a C dx : Addr} {fs : List (Str × V)} {o' : HO} (k : Kp F H G) (h : G a = some (.ins C dx fs)) (f : F a) : Kp F H (L2.upd G a o') := k.trans (Kp.updI h f) fun _ z => .inl z
theorem Kp.andL {F : Addr → Prop} {H G : Hp} {a : Addr} {xs : List V} {o' : HO} (k : Kp F H G) (h : G a = some (.lst xs)) (f : F a) : Kp F H (L2.upd G a o') := k.trans (Kp.updL h f) fun _ z => .inl z
theorem Kp.andD {F : Addr → Prop} {H G : Hp} {a : Addr} {xs : List (Key × V)} {o' : HO} (k : Kp F H G) (h : G a = some (.dK xs)) (f : F a) : Kp F H (L2.upd G a o') := k.trans (Kp.updD h f) fun _ z => .inl z
theorem Kp.andN {F : Addr → Prop} {H G : Hp} {a : Addr} {o' : HO} (k : Kp F H G) (h : G a = none) : Kp F H (L2.upd G a o') := k.trans (Kp.new h) fun _ z => .inl z
/-- what is new behind it was new ahead of it -/
theorem Kp.free {F : Addr → Prop} {H G : Hp} {a : Addr} (k : Kp F H G) (h : G a = none) (n : F a → H a = none) : H a = none := by
  by_cases f : F a
  · exact n f
  · cases e : H a with
    | none => rfl
    | some o =>
      rw [k a o e fun _ => f] at h
      cases h
theorem Kt.ext {F : Addr → Prop} {H G : Hp} (e : LamX.ExtN H G) : Kt F H G := fun b o q t _ => e b o q t
theorem Kt.none {F : Addr → Prop} {H G : Hp} {a : Addr} (k : Kt F H G) (m : ∀ o, H a = some o → (∀ ps, o ≠ .tbl ps) ∧ (Mu o → ¬ F a)) (h : G a = Option.none) : H a = Option.none := by
  cases e : H a with
  | none => rfl
  | some o =>
    rw [k a o e (m o e).1 (m o e).2] at h
    cases h
theorem Kp.tabs {F : Addr → Prop} {H G : Hp} {T : List (Addr × Str)} (k : Kp F H G) (t : LamX.Tabs T H) : LamX.Tabs T G := fun p hp => by
  obtain ⟨ps, h1, h2, h3⟩ := t p hp
  exact ⟨ps, k _ _ h1 (fun m => nomatch m), h2, fun pos cv hc => by
    obtain ⟨c, e1, e2⟩ := h3 pos cv hc
    exact ⟨c, e1, k _ _ e2 fun m => by unfold LamX.CodeO at m; exact nomatch m⟩⟩
theorem Kt.tup {F : Addr → Prop} {H G : Hp} (k : Kt F H G) {a : Addr} {xs : List V} (h : H a = some (.tup xs)) : G a = some (.tup xs) := k _ _ h (fun _ z => nomatch z) fun m => nomatch m
theorem Kt.lst {F : Addr → Prop} {H G : Hp} (k : Kt F H G) {a : Addr} {xs : List V} (h : H a = some (.lst xs)) (n : ¬ F a) : G a = some (.lst xs) := k _ _ h (fun _ z => nomatch z) fun _ => n
theorem Kt.dK {F : Addr → Prop} {H G : Hp} (k : Kt F H G) {a : Addr} {xs : List (Key × V)} (h : H a = some (.dK xs)) (n : ¬ F a) : G a = some (.dK xs) := k _ _ h (fun _ z => nomatch z) fun _ => n
theorem Kt.ins {F : Addr → Prop} {H G : Hp} (k : Kt F H G) {a C dx : Addr} {fs : List (Str × V)} (h : H a = some (.ins C dx fs)) (n : ¬ F a) : G a = some (.ins C dx fs) := k _ _ h (fun _ z => nomatch z) fun _ => n

theorem upd_none {H : Hp} {a b : Addr} {o : HO} (h : upd H a o b = none) : b ≠ a ∧ H b = none := by
  by_cases e : b = a
  · rw [e, upd_same] at h
    cases h
  · rw [upd_ne e] at h
    exact ⟨e, h⟩

/-! ### 2. Data: what is written into blocks -/
def leafV : V → Bool
  | .non => true
  | .bl _ => true
  | .int _ => true
  | .str x => PyData.strOk x
  | _ => false
def SumD (P : V → Nat → Nat → Prop) : List V → Nat → Nat → Prop
  | [], w, z => w = 0 ∧ z = 0
  | v :: vs, w, z => ∃ x y a b, P v x a ∧ SumD P vs y b ∧ w = x + y ∧ z = a + b
/-- v is a leaf, or tuples within one another, at most n deep; w is its weight, z how many things it has -/
def Dat (H : Hp) : Nat → V → Nat → Nat → Prop
  | 0, _, _, _ => False
  | n + 1, v, w, z => (leafV v = true ∧ w = 1 ∧ z = 1) ∨ ∃ a xs u, v = .ref a ∧ H a = some (.tup xs) ∧ SumD (Dat H n) xs w u ∧ z = u + 1
theorem SumD.imp {P Q : V → Nat → Nat → Prop} (h : ∀ v w z, P v w z → Q v w z) : ∀ {xs : List V} {w z : Nat}, SumD P xs w z → SumD Q xs w z
  | [], _, _, e => e
  | _ :: _, _, _, ⟨x, y, a, b, p, r, e⟩ => ⟨x, y, a, b, h _ _ _ p, SumD.imp h r, e⟩
theorem SumD.mem {P : V → Nat → Nat → Prop} : ∀ {xs : List V} {w z : Nat}, SumD P xs w z → ∀ v ∈ xs, ∃ x a, P v x a
  | [], _, _, _, _, h => by cases h
  | _ :: _, _, _, ⟨x, _, a, _, p, r, _⟩, v, h => by
    rcases List.mem_cons.mp h with e | e
    · exact ⟨x, a, e ▸ p⟩
    · exact SumD.mem r v e
theorem SumD.app {P : V → Nat → Nat → Prop} : ∀ {xs ys : List V} {w z u t : Nat}, SumD P xs w z → SumD P ys u t → SumD P (xs ++ ys) (w + u) (z + t)
  | [], _, _, _, _, _, ⟨e, f⟩, r => by
    subst e f
    rw [Nat.zero_add, Nat.zero_add]
    exact r
  | _ :: _, _, _, _, _, _, ⟨x, y, a, b, p, q, e, f⟩, r => ⟨x, _, a, _, p, SumD.app q r, by omega, by omega⟩
theorem SumD.of_app {P : V → Nat → Nat → Prop} : ∀ {xs ys : List V} {w z : Nat}, SumD P (xs ++ ys) w z → ∃ x a y b, SumD P xs x a ∧ SumD P ys y b ∧ w = x + y ∧ z = a + b
  | [], _, _, _, r => ⟨0, 0, _, _, ⟨rfl, rfl⟩, r, by omega, by omega⟩
  | _ :: _, _, _, _, ⟨x, y, a, b, p, q, e, f⟩ => by
    obtain ⟨x', a', y', b', p', q', e', f'⟩ := SumD.of_app q
    exact ⟨_, _, y', b', ⟨x, x', a, a', p, p', rfl, rfl⟩, q', by omega, by omega⟩
theorem Dat.pos {H : Hp} : ∀ {n : Nat} {v : V} {w z : Nat}, Dat H n v w z → 1 ≤ z
  | 0, _, _, _, h => h.elim
  | _ + 1, _, _, _, .inl h => by omega
  | _ + 1, _, _, _, .inr ⟨a, xs, u, e, h, s, f⟩ => by omega
theorem SumD.len {H : Hp} {n : Nat} : ∀ {xs : List V} {w z : Nat}, SumD (Dat H n) xs w z → xs.length ≤ z
  | [], _, _, _ => Nat.zero_le _
  | _ :: _, _, _, ⟨x, y, a, b, p, r, e, f⟩ => by
    have h1 := p.pos
    have h2 := SumD.len r
    rw [List.length_cons]
    omega
theorem Dat.kt {F : Addr → Prop} {H G : Hp} (k : Kt F H G) : ∀ {n : Nat} {v : V} {w z : Nat}, Dat H n v w z → Dat G n v w z
  | 0, _, _, _, h => h
  | _ + 1, _, _, _, .inl h => .inl h
  | _ + 1, _, _, _, .inr ⟨a, xs, u, e, h, s, f⟩ => .inr ⟨a, xs, u, e, k.tup h, s.imp fun _ _ _ p => Dat.kt k p, f⟩
theorem Dat.up {H : Hp} : ∀ {n : Nat} {v : V} {w z : Nat}, Dat H n v w z → Dat H (n + 1) v w z
  | 0, _, _, _, h => h.elim
  | _ + 1, _, _, _, .inl h => .inl h
  | _ + 1, _, _, _, .inr ⟨a, xs, u, e, h, s, f⟩ => .inr ⟨a, xs, u, e, h, s.imp fun _ _ _ p => Dat.up p, f⟩
theorem Dat.le {H : Hp} {n m : Nat} {v : V} {w z : Nat} (d : Dat H n v w z) (h : n ≤ m) : Dat H m v w z := by
  induction m with
  | zero =>
    have : n = 0 := by omega
    subst this
    exact d
  | succ m ih =>
    by_cases e : n = m + 1
    · subst e
      exact d
    · exact (ih (by omega)).up
/-- x and y are the same data: leaves, tuples and lists of the same -/
def Al (H : Hp) : Nat → V → V → Prop
  | 0, _, _ => False
  | n + 1, x, y => (leafV y = true ∧ x = y) ∨ ∃ (a b : Addr) (xs ys : List V), x = .ref a ∧ y = .ref b ∧ ((H a = some (.tup xs) ∧ H b = some (.tup ys)) ∨ (H a = some (.lst xs) ∧ H b = some (.lst ys))) ∧ xs.length = ys.length ∧ (ys.length : Int) < 2 ^ 62 ∧ ∀ (i : Nat) (x y : V), xs[i]? = some x → ys[i]? = some y → Al H n x y
theorem SumD.mem2 {P : V → Nat → Nat → Prop} : ∀ {xs : List V} {w z : Nat}, SumD P xs w z → ∀ v ∈ xs, ∃ x a, P v x a ∧ a ≤ z
  | [], _, _, _, _, h => by cases h
  | _ :: _, _, _, ⟨x, _, a, b, p, r, _, e⟩, v, h => by
    rcases List.mem_cons.mp h with q | q
    · exact ⟨x, a, q ▸ p, by omega⟩
    · obtain ⟨x', a', p', l⟩ := SumD.mem2 r v q
      exact ⟨x', a', p', by omega⟩
theorem Dat.al {H : Hp} : ∀ {n : Nat} {v : V} {w z : Nat}, Dat H n v w z → z ≤ 10000 → Al H n v v
  | 0, _, _, _, h, _ => h.elim
  | _ + 1, _, _, _, .inl h, _ => .inl ⟨h.1, rfl⟩
  | _ + 1, _, _, _, .inr ⟨a, xs, u, e, h, s, f⟩, hz => .inr ⟨a, a, xs, xs, e, e, .inl ⟨h, h⟩, rfl, by have := s.len; omega, fun i x y hx hy => by
    rw [hx] at hy
    cases hy
    obtain ⟨w, z, d, l⟩ := s.mem2 x (List.mem_of_getElem? hx)
    exact d.al (by omega)⟩
theorem Al.leaf {H : Hp} {n : Nat} {v : V} (h : leafV v = true) : Al H (n + 1) v v := .inl ⟨h, rfl⟩
end K5

set_option Elab.async false
set_option linter.all false
set_option maxRecDepth 100000
set_option maxHeartbeats 1000000
/-! ### Rules for what the layer lacks: xs.extend(t), bs.count(True), d.update(pairs), zip(xs, t) -/
namespace K5
open PySem PySem.Spec PyProof.Rows L2
theorem ext_tup (l : Addr) (xs : Array Value) (n : Nat) (b : Addr) (ys : Array Value) (m : Nat) (dd : Option Addr) (sl : Array (Option Value))
    (h0 : ¬(!xs.isEmpty && Builtin.List.listTooLong (xs.size + ys.size)) = true) (h1 : xs.size ≤ sizeLine) (h2 : xs.size + ys.size ≤ sizeLine + 1) :
    Meets (Builtin.«list.extend» ⟨[.ref l, .ref b], []⟩) (fun _ R s => s.heap.get? l = some { cls := .type "list", dict := none, data := .seq xs n, slots := #[] } ∧ s.heap.get? b = some ⟨.type "tuple", dd, .seq ys m, sl⟩ ∧
      R (.ok (.ret Value.none)) { s with heap := s.heap.update l (Obj.mapSeq fun x => x ++ ys), toks := s.toks }) :=
  .of_wp fun prog w A R s h => by
    obtain ⟨hp, g, d, tk, os⟩ := s
    obtain ⟨hl, hb, h⟩ := h
    have f1 := PySem.AutoSeq1.idx_int
    have f2 := PySem.AutoSeq1.sub_tuple_tuple
    have f3 := PySem.AutoSeq1.sub_list_list
    have f4 := PySem.AutoSeq1.sub_tuple_list
    have f5 := PySem.AutoSeq1.sub_list_tuple
    have hz' : (xs ++ ys).size ≤ sizeLine + 1 := by rw [Array.size_append]; exact h2
    wp_walk using (wpAny_updateSeq hl rfl (hz := h1) (_hz' := hz')), wpAny_loadPart' hl, wpAny_loadPart' hb
    exact ⟨_, rfl, h⟩
def rExtT : V → List V → Hp → VK → Prop := fun x vs H Q => ∃ l b xs zs, x = .ref l ∧ vs = [.ref b] ∧ H l = some (.lst xs) ∧ H b = some (.tup zs) ∧ xs.length + zs.length ≤ sizeLine ∧ Q .non (upd H l (.lst (xs ++ zs)))
section
variable {X : Cx}
theorem mt_extT : MtM X "list.extend" rExtT := by
  intro pins s σ H x vs v us Q I rx rv h
  obtain ⟨l, b, xs, zs, rfl, rfl, hH, hB, hz, q⟩ := h
  cases rx
  obtain ⟨u, rfl, ru⟩ := rv.one
  cases ru
  obtain ⟨z, ja, n, r, hl, e⟩ := I.lstM hH
  obtain ⟨z2, jb, r2, ⟨oc, od, oda, osl⟩, e2, c2, m, d2⟩ := (show ObjOk X.prog X.w H s.heap b (.tup zs) from I.hok b _ hB)
  dsimp only at c2 d2
  subst c2 d2
  have hl2 := r2.length
  have fits : ja.toArray.size + jb.toArray.size ≤ sizeLine := by
    rw [List.size_toArray, List.size_toArray, ← hl, ← hl2]
    exact hz
  have door : ¬ (!ja.toArray.isEmpty && Builtin.List.listTooLong (ja.toArray.size + jb.toArray.size)) = true := by
    rw [notLongL fits, Bool.and_false]; exact Bool.false_ne_true
  refine call_meets F.slot_list_extend ⟨_, e, rfl⟩ F.entry_list_extend (F.args_list_extend_2 _ _) (ext_tup l ja.toArray n b jb.toArray m od osl door (by rw [List.size_toArray]; omega) (by omega)) ⟨e, e2, ?_⟩
  exact ⟨.non, _, I.lset (its' := ja ++ jb) hH e (by simp) (r.append r2) (by rw [List.length_append]; exact hz), rfl, q⟩
/-- bs.count(True) -/
def rCntB (K : PySem.W.Frag) : V → List V → Hp → VK → Prop := fun x xs H Q => ∃ (p : Addr) (bs : List Bool), x = .ref p ∧ xs = [.bl true] ∧ SqL K H p (bs.map V.bl) ∧ Q (.int (bs.count true : Nat)) H
theorem flat_bools (bs : List Bool) : (bs.map V.bl).all flatV = true := by
  rw [List.all_map]
  exact List.all_eq_true.mpr fun _ _ => rfl
theorem countB : ∀ {bs : List Bool} {us : List Value}, Vals (bs.map V.bl) us → us.countP (eqU (.bl true)) = bs.count true
  | [], _, r => by
    cases r
    rfl
  | b :: bs, _, r => by
    rw [List.map_cons] at r
    cases r with
    | cons h t =>
      rw [List.countP_cons, countB t, List.count_cons]
      have e : eqU (.bl true) _ = eqV (.bl b) (.bl true) := eqU_of h rfl
      rw [e]
      cases b <;> rfl
theorem mt_cntB : MtR X "list.count" (rCntB X.K) := by
  intro pins s σ H x xs v us Q I rx rxs h
  obtain ⟨p, bs, rfl, rfl, hs, q⟩ := h
  cases rx
  obtain ⟨u, rfl, ru⟩ := rxs.one
  obtain ⟨its, rv, ⟨⟨cls, dd, data, sl⟩, n, ho, hc, hdn, hd⟩, hlen⟩ := I.list hs
  dsimp only at hc hd
  subst hc hd
  refine call_meets PySem.F.slot_list_count ⟨_, ho, rfl⟩ PySem.F.entry_list_count (PySem.F.args_list_count_2 _ _) (SeqAt.list_countAt p its.toArray n dd sl u (eqU (.bl true))) ⟨ho, fun y hy => mem_eqAt ru rfl rv (flat_bools bs) y (by simpa using hy), ?_⟩
  refine ⟨.int (bs.count true : Nat), H, I.tok _, ⟨s.toks, ?_⟩, q⟩
  show Value.int ((its.toArray.toList.countP (eqU (.bl true)) : Nat) : Int) s.toks = _
  rw [show its.toArray.toList.countP (eqU (.bl true)) = bs.count true from countB rv]
end
end K5
namespace K5
open PySem PySem.Spec PyProof.Rows L2
section
variable {X : Cx} {pins : List (Addr × Obj)} {σ : L2.St} {H : Hp} {s : Shared}
theorem uvOf (I : Inv X pins σ H s) : ∀ {ps : List Addr} {kvs : List (Key × V)}, Paired (fun p kv => SqT X.K H p [kV kv.1, kv.2]) ps kvs →
    ∃ (rs : List (Key × Value)) (uv : List (Value × Value)), KV kvs rs ∧ rs.length = ps.length ∧ uv.length = ps.length ∧
      ∀ (j : Nat) (k v : Value), uv[j]? = some (k, v) → ∃ (b : Addr) (kk : Key), ps[j]? = some b ∧ IsTup s.heap b #[k, v] ∧ rs[j]? = some (kk, v) ∧ keyIs kk k = true
  | _, _, .nil => ⟨[], [], .nil, rfl, rfl, fun j k v e => by simp at e⟩
  | _, _, .cons (a := p) (b := kv) h t => by
    obtain ⟨rs, uv, r, l1, l2, hp⟩ := uvOf I t
    obtain ⟨its, rv, ht, _⟩ := I.tuple h
    obtain ⟨u, y, ei, ru, ry⟩ := vals2 rv
    subst ei
    refine ⟨(kv.1, y) :: rs, (u, y) :: uv, .cons ⟨rfl, ry⟩ r, by rw [List.length_cons, List.length_cons, l1], by rw [List.length_cons, List.length_cons, l2], fun j k v e => ?_⟩
    cases j with
    | zero =>
      have e' : (u, y) = (k, v) := Option.some.inj e
      cases e'
      exact ⟨p, kv.1, rfl, ht, rfl, kV_is (P := X.prog) (w := X.w) ru⟩
    | succ j => exact hp j k v (by simpa using e)
def rUpdP (K : PySem.W.Frag) : V → List V → Hp → VK → Prop := fun x xs H Q => ∃ (d a : Addr) (ps : List Addr) (acc kvs : List (Key × V)), x = .ref d ∧ xs = [.ref a] ∧ H d = some (.dK acc) ∧ SqL K H a (ps.map V.ref) ∧
  Paired (fun p kv => SqT K H p [kV kv.1, kv.2]) ps kvs ∧ acc.length + ps.length ≤ sizeLine ∧ Q .non (upd H d (.dK (mergeK acc kvs)))
theorem mt_updP (hcalm : X.calm = true) : MtR X "dict.update" (rUpdP X.K) := by
  intro pins s σ H x xs v us Q I rx rxs h
  obtain ⟨d, a, ps, acc, kvs, rfl, rfl, hd, hq, hp, hz, q⟩ := h
  cases rx
  obtain ⟨u, rfl, ru⟩ := rxs.one
  cases ru
  obtain ⟨its, rv, ⟨oa, n, ho, hc, hdn, hdat⟩, _⟩ := I.list hq
  have ei := refs_at rv
  subst ei
  obtain ⟨rs, uv, rel, l1, l2, hpr⟩ := uvOf I hp
  obtain ⟨zd, hsys, vs, rd, hD⟩ := (show ObjOk X.prog X.w H s.heap d (.dK acc) from I.hok d _ hd)
  have ok : PlainSeq "list" s.heap a (ps.map Value.ref).toArray ∧ PairItems s.heap (ps.map Value.ref).toArray (fun j => ps.getD j 0) uv := by
    refine ⟨⟨oa, n, ho, hc, hdn, hdat⟩, by simp [l2], fun j k v e => ?_⟩
    obtain ⟨b, kk, e1, e2, _⟩ := hpr j k v e
    have eg : ps.getD j 0 = b := by rw [List.getD_eq_getElem?_getD, e1]; rfl
    refine ⟨?_, ?_⟩
    · show (ps.map Value.ref).toArray[j]? = some (.ref (ps.getD j 0))
      rw [eg]
      simp [e1]
    · show PairAt s.heap (ps.getD j 0) k v
      rw [eg]
      exact .inl e2
  obtain ⟨od, hod, hcd⟩ := hD.typeIs (s := s)
  have hdf : d ∉ a :: (List.range uv.length).map (fun j => ps.getD j 0) := fun hm => by
    rcases List.mem_cons.mp hm with e | hm
    · subst e
      rw [ho] at hod
      cases hod
      rw [hc] at hcd
      exact absurd (Value.type.inj hcd) (by decide)
    · obtain ⟨j, hj, e⟩ := List.mem_map.mp hm
      have hj := List.mem_range.mp hj
      obtain ⟨b, kk, e1, ⟨ob, hob, hcb, _⟩, _⟩ := hpr j uv[j].1 uv[j].2 (List.getElem?_eq_getElem hj)
      have eg : ps.getD j 0 = b := by rw [List.getD_eq_getElem?_getD, e1]; rfl
      rw [eg] at e
      subst e
      rw [hob] at hod
      cases hod
      rw [hcb] at hcd
      exact absurd (Value.type.inj hcd) (by decide)
  have la : vs.length = acc.length := (Paired.length rd).symm
  refine call_update_pairs (knd := mixKind X.prog X.w) (kvs := rs) (PairArg.list a _ _ uv) (I.ok.hd hcalm) ok hdf ⟨by rw [l1, l2], fun i key v e => ?_⟩ hD (by rw [l2, la]; exact hz) fun h' tk hD' k => ?_
  · obtain ⟨b, kk, _, _, e3, e4⟩ := hpr i key v e
    exact ⟨kk, e3, e4⟩
  · have hlen : (mergeK acc kvs).length ≤ sizeLine := by
      refine Nat.le_trans (length_mergeK kvs acc) ?_
      rw [show kvs.length = ps.length by rw [← l1]; exact Paired.length rel]
      exact hz
    obtain ⟨oe, hoe, _⟩ := hD'.typeIs (s := { s with heap := h' })
    refine ⟨.non, _, I.write (t' := tk) (o := .dK (mergeK acc kvs)) (by rw [hd]; trivial) (.inl rfl) (fun b o nb e => k b o nb (fun z => nomatch z) e) ⟨oe, hoe⟩ ⟨hlen, hsys, _, KV.merge rel rd, hD'⟩, rfl, q⟩
end
end K5

set_option Elab.async false
set_option linter.all false
set_option maxRecDepth 100000
set_option maxHeartbeats 1000000
/-! ### zip of a list and of a list or a tuple -/
namespace K5
open PySem PySem.Spec PyProof.Rows L2
/-- how the second one is walked: its iterator's state, and what it stands for -/
structure Snd (P : Program) (w : World) (j b : Addr) where
  st : Nat → Heap → Prop
  own : Heap → Array Value → Prop
  obj : ∀ i h, st i h → ∃ o, h.get? j = some o ∧ ∀ v, o.data ≠ .cell v
  keep : ∀ i h g, st i h → (∀ o, h.get? j = some o → g.get? j = some o) → st i g
  draws : ∀ (A : Around) (ys : Array Value), A.handled = none → Draws P w A j [j, b] ys.size (fun i v => ys[i]? = some v) (fun i h => st i h ∧ own h ys)
def sndL (P : Program) (w : World) (j b : Addr) (ne : b ≠ j) : Snd P w j b where
  st := fun i h => h.IsListIter j b i
  own := fun h ys => h.IsList b ys
  obj := fun i h ⟨o, e, _, d⟩ => ⟨o, e, fun v q => by rw [d] at q; cases q⟩
  keep := fun i h g x k => x.at k
  draws := fun A ys hh => Draws.list hh j b ne ys
def sndT (P : Program) (w : World) (j b : Addr) (ne : b ≠ j) : Snd P w j b where
  st := fun i h => h.IsTupleIter j b i
  own := fun h ys => h.IsTuple b ys
  obj := fun i h ⟨o, e, _, d⟩ => ⟨o, e, fun v q => by rw [d] at q; cases q⟩
  keep := fun i h g x k => x.at k
  draws := fun A ys hh => Draws.tuple hh j b ne ys
/-- one turn after another: the items in new pairs -/
def ItM (K : PySem.W.Frag) (a : Addr) (sq : Hp → Prop) (xs ys : List V) : It where
  go := fun i H => SqL K H a xs ∧ sq H ∧ i < xs.length ∧ i < ys.length
  yld := fun i H v G => ∃ T x y, v = .ref T ∧ H T = none ∧ G = upd H T (.tup [x, y]) ∧ xs[i]? = some x ∧ ys[i]? = some y
  stop := fun i H => SqL K H a xs ∧ sq H ∧ i ≤ xs.length ∧ i ≤ ys.length ∧ (i = xs.length ∨ i = ys.length)
theorem turnM {P : Program} {w : World} {K : PySem.W.Frag} {elts : List Expr} {kk : Nat} {tpos : Pos} {a b z TI TO i1 i2 : Addr} {xs ys : List V} {sq : Hp → Prop} (D : Snd P w i2 b) (S : ZipSep2 z TI TO i1 i2 [i1, a] [i2, b]) (na : a ≠ i1)
    (rd : ∀ {X : Cx} {pins : List (Addr × Obj)} {σ : L2.St} {H : Hp} {s : Shared}, X.K = K → Inv X pins σ H s → sq H → ∃ its : List Value, Vals ys its ∧ D.own s.heap its.toArray) :
    Turn P w K (.Tuple elts kk tpos) (ItM K a sq xs ys) [z, TI, TO, i1, i2] z (fun i h => IsZip h z TI TO .none ∧ IsTupOf2 h TI (.ref i1) (.ref i2) ∧ (∃ x y, IsTupOf2 h TO x y) ∧ h.IsListIter i1 a i ∧ D.st i h) where
  mem := List.mem_cons_self
  obj := fun i h ⟨hz, hTI, ⟨x, y, hTO⟩, ⟨o1, e1, _, d1⟩, h2⟩ c hc => by
    simp only [List.mem_cons, List.not_mem_nil, or_false] at hc
    rcases hc with rfl | rfl | rfl | rfl | rfl
    · exact ⟨_, hz, nofun⟩
    · exact ⟨_, hTI, nofun⟩
    · exact ⟨_, hTO, nofun⟩
    · exact ⟨o1, e1, fun v q => by rw [d1] at q; cases q⟩
    · exact D.obj i h h2
  keep := fun i h g ⟨hz, hTI, ⟨x, y, hTO⟩, h1, h2⟩ k =>
    ⟨k _ (by simp) _ hz, k _ (by simp) _ hTI, ⟨x, y, k _ (by simp) _ hTO⟩, h1.at fun o q => k _ (by simp) o q, D.keep i h g h2 fun o q => k _ (by simp) o q⟩
  item := by
    intro X hP hw hK hc i pins s σ H E I hf ⟨hz, hTI, ⟨x0, y0, hTO⟩, h1, h2⟩ ⟨qx, qy, lx, ly⟩
    subst hP hw
    obtain ⟨ja, ra, pa, _⟩ := I.list (by rw [hK]; exact qx)
    obtain ⟨jb, rb, pb⟩ := rd hK I qy
    have la := ra.length
    have lb := rb.length
    have hh := I.ok.hd hc
    refine wpAny_pyNext_zipD2_item S (Draws.list (A := X.A.in1) hh i1 a na ja.toArray) (D.draws X.A.in1 jb.toArray hh) hz hTI hTO ⟨h1, pa.isList⟩ ⟨h2, pb⟩ (by simp; omega) (by simp; omega) fun u1 u2 g tk e1 e2 z' TO' n1 n2 hT hsz hk => ?_
    refine ⟨_, rfl, wpAny_letOwnedTupleGo_zip (s := { s with heap := g, toks := tk }) z' fun g' z'' sb => ?_⟩
    have hzl : z < s.heap.objs.size := Heap.lt_size hz
    have old : ∀ c o, c ∉ [z, TI, TO, i1, i2] → s.heap.get? c = some o → g'.get? c = some o := fun c o nc q => by
      simp only [List.mem_cons, List.not_mem_nil, or_false, not_or] at nc
      exact (sb.2 c nc.1).trans (hk c o nc.1 nc.2.2.1 nc.2.2.2.1 nc.2.2.2.2 q)
    obtain ⟨x, hx⟩ : ∃ x, xs[i]? = some x := ⟨_, List.getElem?_eq_getElem lx⟩
    obtain ⟨y, hy⟩ : ∃ y, ys[i]? = some y := ⟨_, List.getElem?_eq_getElem ly⟩
    obtain ⟨v1, hv1, r1⟩ := ra.get hx
    obtain ⟨v2, hv2, r2⟩ := rb.get hy
    have e1' : ja[i]? = some u1 := by simpa using e1
    have e2' : jb[i]? = some u2 := by simpa using e2
    rw [hv1] at e1'
    rw [hv2] at e2'
    cases e1'
    cases e2'
    have hT' : g'.get? s.heap.objs.size = some { cls := .type "tuple", data := .seq #[u1, u2] } := (sb.2 _ (Nat.ne_of_gt hzl)).trans hT
    have new : ObjOk X.prog X.w (upd H s.heap.objs.size (.tup [x, y])) g' s.heap.objs.size (.tup [x, y]) := ⟨by show 2 ≤ sizeLine; decide, [u1, u2], .cons r1 (.cons r2 .nil), ⟨_, hT', rfl, _, rfl⟩⟩
    refine ⟨.ref s.heap.objs.size, _, I.turnedNew (t' := tk) old hf (Nat.le_refl _) new, rfl, ⟨_, x, y, rfl, I.hok.fresh (Nat.le_refl _), rfl, hx, hy⟩, ⟨z'', (sb.2 _ S.TIz).trans (hk _ _ S.TIz S.TITO S.TIi1 S.TIi2 hTI), ⟨u1, u2, (sb.2 _ S.TOz).trans TO'⟩, n1.1.at fun o q => (sb.2 _ S.zi1.symm).trans q, D.keep _ _ _ n2.1 fun o q => (sb.2 _ S.zi2.symm).trans q⟩, fun c hcm => ?_⟩
    have hlt : c < s.heap.objs.size := by
      simp only [List.mem_cons, List.not_mem_nil, or_false] at hcm
      rcases hcm with rfl | rfl | rfl | rfl | rfl
      · exact hzl
      · exact Heap.lt_size hTI
      · exact Heap.lt_size hTO
      · obtain ⟨_, q, _⟩ := h1
        exact Heap.lt_size q
      · obtain ⟨_, q, _⟩ := D.obj i _ h2
        exact Heap.lt_size q
    rw [upd_ne (Nat.ne_of_lt hlt)]
    exact (hf c hcm).1
  done := by
    intro X hP hw hK hc i pins s σ H E I hf ⟨hz, hTI, ⟨x0, y0, hTO⟩, h1, h2⟩ ⟨qx, qy, lx, ly, hend⟩
    subst hP hw
    obtain ⟨ja, ra, pa, _⟩ := I.list (by rw [hK]; exact qx)
    obtain ⟨jb, rb, pb⟩ := rd hK I qy
    have la := ra.length
    have lb := rb.length
    have hh := I.ok.hd hc
    refine wpAny_pyNext_zipD2_end S (Draws.list (A := X.A.in1) hh i1 a na ja.toArray) (D.draws X.A.in1 jb.toArray hh) hz hTI hTO ⟨h1, pa.isList⟩ ⟨h2, pb⟩ (by simp; omega) (by simp; omega) (by simp; omega) fun g tk hk => ⟨rfl, I.turnedL (t' := tk) (ch := [z, TI, TO, i1, i2]) (fun c o nc q => ?_) hf⟩
    simp only [List.mem_cons, List.not_mem_nil, or_false, not_or] at nc
    exact hk c o nc.1 nc.2.2.1 nc.2.2.2.1 nc.2.2.2.2 q
  self := fun A i s Q E st h => wpAny_pyIter_zip st.1 h
def iZipM (K : PySem.W.Frag) (ta : TA) : TI := fun σ H R => ta σ H fun vs G => ∃ (a b : Addr) (xs ys : List V), vs = [.ref a, .ref b] ∧ SqL K G a xs ∧ ((SqL K G b ys ∧ R (ItM K a (fun J => SqL K J b ys) xs ys) G) ∨ (SqT K G b ys ∧ R (ItM K a (fun J => SqT K J b ys) xs ys) G))
theorem pi_zipM {X : Cx} {e e2 : Expr} {ta : TA} {p pos tpos : Pos} {elts : List Expr} {kk : Nat} (hg : Gl X "zip") (hm : X.mg "zip" = none) (ha : PA X [e, e2] ta)
    (hs : starEach [e, e2] X.env = (false, eval e X.env) :: starEach [e2] X.env := by rfl) (hpl : (backTo pos (starEach [e2] X.env)).any (·.1) = false := by rfl) :
    PI X (.Tuple elts kk tpos) (.Call (.Name "zip" p) [e, e2] [] pos) (iZipM X.K ta) := by
  refine ⟨fun pins s σ H R I h => Call_ (ld_blt I hg hm PyProof.Rows.boot_zip (PyProof.Rows.callWith_type1 (thn (ha.run pos pins s σ H _ I h) fun us s1 ⟨vs, G, I1, r1, a, b, xs, ys, ex, qx, q1⟩ => ?_) hs hpl))⟩
  subst ex
  obtain ⟨u1, u2, eu, ra, rb⟩ := vals2 r1
  subst eu
  cases ra
  cases rb
  have lt5 : ∀ {c n : Nat}, c ∈ [n + 4, n + 2, n + 3, n, n + 1] → n ≤ c := fun {c n} hc => by
    simp only [List.mem_cons, List.not_mem_nil, or_false] at hc
    omega
  have fr : ∀ c, c ∈ [s1.heap.objs.size + 4, s1.heap.objs.size + 2, s1.heap.objs.size + 3, s1.heap.objs.size, s1.heap.objs.size + 1] → FpOk X pins G c := fun c hc => I1.fpOk (lt5 hc) (I1.hok.fresh (lt5 hc))
  obtain ⟨ja, va, pa, _⟩ := I1.list qx
  have na : a ≠ s1.heap.objs.size := Nat.ne_of_lt pa.lt
  rcases q1 with ⟨qy, q⟩ | ⟨qy, q⟩
  · obtain ⟨jb, vb, pb, _⟩ := I1.list qy
    have nb : b ≠ s1.heap.objs.size + 1 := Nat.ne_of_lt (Nat.lt_succ_of_lt pb.lt)
    refine zip_begins2 (begins_list a ja.toArray) (begins_list b jb.toArray) pa.isList pb.isList fun g hz hTI hTO e1 e2 hsz hk => wpAny_pyIter_zip hz ?_
    refine ⟨_, _, _, _, G, rfl, I1.kept (t' := s1.toks) hk, turnM (sndL X.prog X.w (s1.heap.objs.size + 1) b nb) (zip_sep2 (fp1 := [a]) (fp2 := [b]) (by simpa using pa.lt) (by simpa using pb.lt)) na (fun {Y pn τ J t} eK IY sq => ?_), ⟨hz, hTI, ⟨_, _, hTO⟩, ⟨_, e1, rfl, rfl⟩, ⟨_, e2, rfl, rfl⟩⟩, fr, q⟩
    obtain ⟨jc, vc, pc, _⟩ := IY.list (by rw [eK]; exact sq)
    exact ⟨jc, vc, pc.isList⟩
  · obtain ⟨jb, vb, pb, _⟩ := I1.tuple qy
    have lb : b < s1.heap.objs.size := by
      obtain ⟨_, e, _⟩ := pb
      exact Heap.lt_size e
    have nb : b ≠ s1.heap.objs.size + 1 := Nat.ne_of_lt (Nat.lt_succ_of_lt lb)
    refine zip_begins2 (begins_list a ja.toArray) (begins_tuple b jb.toArray) pa.isList pb fun g hz hTI hTO e1 e2 hsz hk => wpAny_pyIter_zip hz ?_
    refine ⟨_, _, _, _, G, rfl, I1.kept (t' := s1.toks) hk, turnM (sndT X.prog X.w (s1.heap.objs.size + 1) b nb) (zip_sep2 (fp1 := [a]) (fp2 := [b]) (by simpa using pa.lt) (by simpa using lb)) na (fun {Y pn τ J t} eK IY sq => ?_), ⟨hz, hTI, ⟨_, _, hTO⟩, ⟨_, e1, rfl, rfl⟩, ⟨_, e2, rfl, rfl⟩⟩, fr, q⟩
    obtain ⟨jc, vc, pc, _⟩ := IY.tuple (by rw [eK]; exact sq)
    exact ⟨jc, vc, pc⟩
/-- a loop over such a zip -/
theorem for_zipM {K : PySem.W.Frag} {a : Addr} {sq : Hp → Prop} {xs ys : List V} {g : TG} {tb : TS} {D : Ends} {σ : L2.St} {H : Hp} (Pv : Nat → L2.St → Hp → Prop) (h0 : Pv 0 σ H) (hq : ∀ i σ H, Pv i σ H → SqL K H a xs ∧ sq H)
    (hs : ∀ (i : Nat) (x y : V) (T : Addr) (σ : L2.St) (H : Hp), xs[i]? = some x → ys[i]? = some y → Pv i σ H → H T = none → g (.ref T) σ (upd H T (.tup [x, y])) fun σ2 H2 => tb { D with nx := Pv (i + 1), ct := Pv (i + 1), bk := D.nx } σ2 H2)
    (hd : ∀ σ H, Pv (min xs.length ys.length) σ H → D.nx σ H) :
    ∃ W : Nat → Nat → L2.St → Hp → Prop, (∃ m, W 0 m σ H) ∧ ∀ i m σ H, W i m σ H →
      ((ItM K a sq xs ys).stop i H ∧ D.nx σ H) ∨ ((ItM K a sq xs ys).go i H ∧ ∃ N : L2.St → Hp → Prop, (∀ σ' H', N σ' H' → ∃ m', m' < m ∧ W (i + 1) m' σ' H') ∧ ∀ v H', (ItM K a sq xs ys).yld i H v H' → g v σ H' fun σ2 H2 => tb { D with nx := N, ct := N, bk := D.nx } σ2 H2) := by
  refine ⟨fun i m σ H => m = min xs.length ys.length - i ∧ i ≤ min xs.length ys.length ∧ Pv i σ H, ⟨_, rfl, Nat.zero_le _, h0⟩, ?_⟩
  rintro i m σ H ⟨rfl, hi, p⟩
  obtain ⟨qx, qy⟩ := hq i σ H p
  by_cases lt : i < min xs.length ys.length
  · refine .inr ⟨⟨qx, qy, by omega, by omega⟩, Pv (i + 1), fun σ' G p' => ⟨min xs.length ys.length - (i + 1), by omega, rfl, by omega, p'⟩, fun v G yl => ?_⟩
    obtain ⟨T, x, y, rfl, hT, rfl, e1, e2⟩ := yl
    exact hs i x y T σ H e1 e2 p hT
  · have e : i = min xs.length ys.length := by omega
    subst e
    exact .inl ⟨⟨qx, qy, by omega, by omega, by omega⟩, hd σ H p⟩
end K5

set_option Elab.async false
set_option linter.all false
set_option maxRecDepth 100000
set_option maxHeartbeats 2000000
/-! ### enumerate of a list or a tuple -/
namespace SupX
open PySem PySem.Spec PyProof.Rows L2 K5
theorem en_new {v : Value} {o : Obj} {Hh : Heap → Prop} (B : Begins v o Hh) :
    Meets (Builtin.«enumerate.__new__» ⟨[.type "enumerate", v], []⟩) (fun _ R s => Hh s.heap ∧
      R (.ok (.ret (.ref (s.heap.push o).objs.size))) { s with heap := (s.heap.push o).push { cls := .type "enumerate", data := .fields #[.none, .bool false, .ref s.heap.objs.size, rawInt 0, .none, .none] } }) :=
  .of_wp fun prog w A R s h => by
    obtain ⟨hp, gs, dr, tk, os⟩ := s
    obtain ⟨hh, h⟩ := h
    have hsub := sub_enumerate
    have it0 : ∀ {A' : Around} {E : Value → Shared → Prop} {Q : Value → Shared → Prop}, Q (.ref hp.objs.size) ⟨hp.push o, gs, dr, tk, os⟩ → wpAny (model prog w) A' (pyIter v) Q E ⟨hp, gs, dr, tk, os⟩ := fun q => B.iter prog w _ _ ⟨hp, gs, dr, tk, os⟩ _ hh q
    wp_walk using it0
    refine wpAny_stack_any fun st => wpAny_pure ?_
    split
    · rename_i c _ _ _ _ _
      cases (c == Value.type "enumerate") <;> (wp_walk using it0) <;> exact ⟨_, rfl, h⟩
    · wp_walk using it0
      exact ⟨_, rfl, h⟩
theorem en_call {prog : Program} {w : World} {A : Around} {E : Value → Shared → Prop} {s : Shared} {v : Value} {o : Obj} {Hh : Heap → Prop} {Q : Value → Shared → Prop} (B : Begins v o Hh) (hh : Hh s.heap)
    (h : ∀ h', IsEnum h' (s.heap.objs.size + 1) s.heap.objs.size 0 .none → h'.get? s.heap.objs.size = some o → (∀ b u, s.heap.get? b = some u → h'.get? b = some u) → Q (.ref (s.heap.objs.size + 1)) { s with heap := h' }) :
    wpAny (model prog w) A (call (.type "enumerate") [v]) Q E s := by
  refine callType_new F.called_enumerate (by decide) (F.typeCall_enumerate_1 _) (F.newCall_enumerate_1 _) (fun obj => F.args_object_init_2 obj _) F.entry_enumerate_new (en_new B) ⟨hh, ?_⟩
  have z1 : (s.heap.push o).objs.size = s.heap.objs.size + 1 := Heap.size_push ..
  show _ ∧ _
  rw [z1]
  have en : IsEnum ((s.heap.push o).push { cls := .type "enumerate", data := .fields #[.none, .bool false, .ref s.heap.objs.size, rawInt 0, .none, .none] }) (s.heap.objs.size + 1) s.heap.objs.size 0 .none := by
    have q := Heap.get?_push_size (s.heap.push o) (o := { cls := .type "enumerate", data := .fields #[.none, .bool false, .ref s.heap.objs.size, rawInt 0, .none, .none] }) rfl
    rw [z1] at q
    exact q
  exact ⟨⟨_, en, rfl⟩, h _ en (Heap.get?_push_of_some _ (Heap.get?_push_size _ B.free)) fun b u x => Heap.get?_push_of_some _ (Heap.get?_push_of_some _ x)⟩
/-- one turn after another: the number and the item in a new pair -/
def ItE (sq : Hp → Prop) (ys : List V) : It where
  go := fun i H => sq H ∧ i < ys.length
  yld := fun i H v G => ∃ T y, v = .ref T ∧ H T = none ∧ G = upd H T (.tup [.int (i : Nat), y]) ∧ ys[i]? = some y
  stop := fun i H => sq H ∧ i = ys.length
theorem turnE {P : Program} {w : World} {K : PySem.W.Frag} {elts : List Expr} {kk : Nat} {tpos : Pos} {b e i2 : Addr} {ys : List V} {sq : Hp → Prop} (D : Snd P w i2 b) (ne : e ≠ i2) (nb : e ≠ b)
    (rd : ∀ {X : Cx} {pins : List (Addr × Obj)} {σ : L2.St} {H : Hp} {s : Shared}, X.K = K → Inv X pins σ H s → sq H → ∃ its : List Value, Vals ys its ∧ D.own s.heap its.toArray) :
    Turn P w K (.Tuple elts kk tpos) (ItE sq ys) [e, i2] e (fun i h => (∃ old, IsEnum h e i2 ((i : Nat) : Int) old) ∧ D.st i h) where
  mem := List.mem_cons_self
  obj := fun i h ⟨⟨old, he⟩, h2⟩ c hc => by
    simp only [List.mem_cons, List.not_mem_nil, or_false] at hc
    rcases hc with rfl | rfl
    · exact ⟨_, he, nofun⟩
    · exact D.obj i h h2
  keep := fun i h g ⟨⟨old, he⟩, h2⟩ k => ⟨⟨old, k _ (by simp) _ he⟩, D.keep i h g h2 fun o q => k _ (by simp) o q⟩
  item := by
    intro X hP hw hK hc i pins s σ H E I hf ⟨⟨old, he⟩, h2⟩ ⟨qy, ly⟩
    subst hP hw
    obtain ⟨jb, rb, pb⟩ := rd hK I qy
    have lb := rb.length
    have hel : e < s.heap.objs.size := Heap.lt_size he
    refine wpAny_pyNext_enum_itemD (D.draws X.A.in1 jb.toArray (I.ok.hd hc)) he ⟨h2, pb⟩ (by simp; omega) ne (by simp [ne, nb]) fun u g tk eu ho st' hT hz hk => ?_
    obtain ⟨st2, own2⟩ := st'
    refine ⟨_, rfl, wpAny_letOwnedTupleGo_enum (s := { s with heap := g, toks := tk + 1 }) ho fun g' he' sb => ?_⟩
    have eu' : jb[i]? = some u := by simpa using eu
    obtain ⟨y, hy, ry⟩ : ∃ y, ys[i]? = some y ∧ RelV y u := by
      have li : i < ys.length := ly
      obtain ⟨u2, h1, h3⟩ := rb.get (List.getElem?_eq_getElem li)
      rw [h1] at eu'
      cases eu'
      exact ⟨_, List.getElem?_eq_getElem li, h3⟩
    have hT2 : g'.get? s.heap.objs.size = some { cls := .type "tuple", data := .seq #[.int i tk, u] } := (sb.2 _ (Nat.ne_of_gt hel)).trans hT
    have new : ObjOk X.prog X.w (upd H s.heap.objs.size (.tup [.int (i : Nat), y])) g' s.heap.objs.size (.tup [.int (i : Nat), y]) := ⟨by show 2 ≤ sizeLine; decide, [.int i tk, u], .cons ⟨_, rfl⟩ (.cons ry .nil), ⟨_, hT2, rfl, _, rfl⟩⟩
    have I1 : Inv X pins σ (upd H s.heap.objs.size (.tup [.int (i : Nat), y])) { s with heap := g', toks := tk + 1 } :=
      I.turnedNew (ch := [e, i2]) (fun c o hb q => (sb.2 c (fun z => hb (by simp [z]))).trans (hk c o (fun z => hb (by simp [z])) (fun z => hb (by simp [z])) q)) hf (Nat.le_refl _) new
    refine ⟨.ref s.heap.objs.size, _, I1, rfl, ⟨_, y, rfl, I.hok.fresh (Nat.le_refl _), rfl, hy⟩, ⟨⟨u, ?_⟩, D.keep _ _ _ st2 fun o q => (sb.2 i2 (Ne.symm ne)).trans q⟩, fun c hb => ?_⟩
    · rw [show ((i + 1 : Nat) : Int) = (i : Int) + 1 by omega]
      exact he'
    · have lc : c < s.heap.objs.size := by
        simp only [List.mem_cons, List.not_mem_nil, or_false] at hb
        rcases hb with rfl | rfl
        · exact hel
        · obtain ⟨_, q, _⟩ := D.obj i _ h2
          exact Heap.lt_size q
      rw [upd_ne (Nat.ne_of_lt lc)]
      exact (hf c hb).1
  done := by
    intro X hP hw hK hc i pins s σ H E I hf ⟨⟨old, he⟩, h2⟩ ⟨qy, ly⟩
    subst hP hw
    obtain ⟨jb, rb, pb⟩ := rd hK I qy
    have lb := rb.length
    obtain ⟨f0, f1, f2, f3, f4, f5⟩ := hf i2 (by simp)
    have en : i = jb.toArray.size := by simp; omega
    subst en
    exact wpAny_pyNext_enum_endD (D.draws X.A.in1 jb.toArray (I.ok.hd hc)) he ⟨h2, pb⟩ fun h' eb => ⟨rfl, I.turned (t' := s.toks) (fun c o hb q => eb c o hb q) f0 f1 f3 f4 f5⟩
  self := fun A i s Q E ⟨⟨_, he⟩, _⟩ h => wpAny_pyIter_enum he h
def iEnT (K : PySem.W.Frag) (ta : TA) : TI := fun σ H R => ta σ H fun vs G => ∃ (b : Addr) (ys : List V), vs = [.ref b] ∧ ((SqL K G b ys ∧ R (ItE (fun J => SqL K J b ys) ys) G) ∨ (SqT K G b ys ∧ R (ItE (fun J => SqT K J b ys) ys) G))
theorem pi_enT {X : Cx} {e : Expr} {ta : TA} {p pos tpos : Pos} {elts : List Expr} {kk : Nat} (hg : Gl X "enumerate") (hm : X.mg "enumerate" = none) (ha : PA X [e] ta) (hs : starEach [e] X.env = [(false, eval e X.env)] := by rfl) :
    PI X (.Tuple elts kk tpos) (.Call (.Name "enumerate" p) [e] [] pos) (iEnT X.K ta) := by
  refine ⟨fun pins s σ H R I h => Call_ (ld_blt I hg hm boot_enumerate (PyProof.Rows.callWith_type1 (thn (ha.run pos pins s σ H _ I h) fun us s1 ⟨vs, G, I1, r1, b, ys, ex, q1⟩ => ?_) hs rfl))⟩
  subst ex
  cases r1 with
  | cons r rr =>
    cases rr
    cases r
    have fr : ∀ c, c ∈ [s1.heap.objs.size + 1, s1.heap.objs.size] → FpOk X pins G c := fun c hc => by
      have le : s1.heap.objs.size ≤ c := by
        simp only [List.mem_cons, List.not_mem_nil, or_false] at hc
        omega
      exact I1.fpOk le (I1.hok.fresh le)
    rcases q1 with ⟨qy, q⟩ | ⟨qy, q⟩
    · obtain ⟨jb, vb, pb, _⟩ := I1.list qy
      have lb := pb.lt
      refine en_call (begins_list b jb.toArray) pb.isList fun g he hi hk => wpAny_pyIter_enum he ?_
      refine ⟨_, _, _, _, G, rfl, I1.kept (t' := s1.toks) hk, turnE (sndL X.prog X.w s1.heap.objs.size b (Nat.ne_of_lt lb)) (Nat.succ_ne_self _) (Nat.ne_of_gt (Nat.lt_succ_of_lt lb)) (fun {Y pn τ J t} eK IY sq => ?_), ⟨⟨.none, he⟩, ⟨_, hi, rfl, rfl⟩⟩, fr, q⟩
      obtain ⟨jc, vc, pc, _⟩ := IY.list (by rw [eK]; exact sq)
      exact ⟨jc, vc, pc.isList⟩
    · obtain ⟨jb, vb, pb, _⟩ := I1.tuple qy
      have lb : b < s1.heap.objs.size := by
        obtain ⟨_, z, _⟩ := pb
        exact Heap.lt_size z
      refine en_call (begins_tuple b jb.toArray) pb fun g he hi hk => wpAny_pyIter_enum he ?_
      refine ⟨_, _, _, _, G, rfl, I1.kept (t' := s1.toks) hk, turnE (sndT X.prog X.w s1.heap.objs.size b (Nat.ne_of_lt lb)) (Nat.succ_ne_self _) (Nat.ne_of_gt (Nat.lt_succ_of_lt lb)) (fun {Y pn τ J t} eK IY sq => ?_), ⟨⟨.none, he⟩, ⟨_, hi, rfl, rfl⟩⟩, fr, q⟩
      obtain ⟨jc, vc, pc, _⟩ := IY.tuple (by rw [eK]; exact sq)
      exact ⟨jc, vc, pc⟩
/-- a loop over it -/
theorem for_enT {sq : Hp → Prop} {ys : List V} {g : TG} {tb : TS} {D : Ends} {σ : L2.St} {H : Hp} (Pv : Nat → L2.St → Hp → Prop) (h0 : Pv 0 σ H) (hq : ∀ i σ H, Pv i σ H → sq H)
    (hs : ∀ (i : Nat) (y : V) (T : Addr) (σ : L2.St) (H : Hp), ys[i]? = some y → Pv i σ H → H T = none → g (.ref T) σ (upd H T (.tup [.int (i : Nat), y])) fun σ2 H2 => tb { D with nx := Pv (i + 1), ct := Pv (i + 1), bk := D.nx } σ2 H2)
    (hd : ∀ σ H, Pv ys.length σ H → D.nx σ H) :
    ∃ W : Nat → Nat → L2.St → Hp → Prop, (∃ m, W 0 m σ H) ∧ ∀ i m σ H, W i m σ H →
      ((ItE sq ys).stop i H ∧ D.nx σ H) ∨ ((ItE sq ys).go i H ∧ ∃ N : L2.St → Hp → Prop, (∀ σ' H', N σ' H' → ∃ m', m' < m ∧ W (i + 1) m' σ' H') ∧ ∀ v H', (ItE sq ys).yld i H v H' → g v σ H' fun σ2 H2 => tb { D with nx := N, ct := N, bk := D.nx } σ2 H2) := by
  refine ⟨fun i m σ H => m = ys.length - i ∧ i ≤ ys.length ∧ Pv i σ H, ⟨_, rfl, Nat.zero_le _, h0⟩, ?_⟩
  rintro i m σ H ⟨rfl, hi, p⟩
  by_cases lt : i < ys.length
  · refine .inr ⟨⟨hq i σ H p, lt⟩, Pv (i + 1), fun σ' G p' => ⟨ys.length - (i + 1), by omega, rfl, by omega, p'⟩, fun v G yl => ?_⟩
    obtain ⟨T, y, rfl, hT, rfl, e2⟩ := yl
    exact hs i y T σ H e2 p hT
  · have e : i = ys.length := by omega
    subst e
    exact .inl ⟨⟨hq _ σ H p, rfl⟩, hd σ H p⟩
end SupX

set_option Elab.async false
set_option linter.all false
set_option maxRecDepth 100000
set_option maxHeartbeats 2000000
/-! An own exception class whose __init__ says super().__init__(f'..'), then self.f = p. -/
namespace SupX
open PySem PySem.Spec PyProof.Rows L2
/-- what the written part says of C's own __init__ at fI: its code, the cell of __class__ -/
structure InitAt (P : Program) (K : PySem.W.Frag) (C fI : Addr) (qual : Str) (st : Stmt) : Prop where
  ex : ∃ (oc : Value) (od : Option Addr) (kV doc pm : Value) (an : Option Addr) (cda cc : Addr) (ct : Value) (osl : Array (Option Value)) (ccl : Value) (cdd : Option Addr) (vs : Array Value) (ccs : Array (Option Value)) (file : Str) (tf : Tok) (cl : Value) (cld : Option Addr) (csl : Array (Option Value)),
    K.lookup fI = some ⟨oc, od, .func (PySem.W.fnX "__init__" qual (defArgs st) (defBody st) (defScope st) [(("__class__" : Str), cc)] .none kV doc pm an (.ref cda) ct), osl⟩ ∧ PySem.W.codeIn K (.ref cda) qual = true ∧
    K.lookup cda = some ⟨ccl, cdd, .fields vs, ccs⟩ ∧ vs[2]? = some (.str file tf) ∧ ((P.main.file : Str) == file) = true ∧ K.lookup cc = some ⟨cl, cld, .cell (some (.ref C)), csl⟩
  init : PySem.W.findIn K (.ref C) "__init__" = some (some (.ref fI))
  ty : PySem.W.typeIn K (.ref fI) = some (.type "function")
/-- what it says of the class -/
structure ClsAt (K : PySem.W.Frag) (mg : Str → Option Value) (C : Addr) (f : Str) : Prop where
  oex : OexC K C
  own : PySem.W.mroIn K C (.ref C) = some true
  up : PySem.W.ks_superIn K C C "__init__" = some (some (.builtin "ValueError.__init__"))
  ve : PySem.W.subIn K (.ref C) (.type "ValueError") = some true
  st : PySem.W.nsIn K PySem.cStatics "thirdparty.any" = some none
  no : PySem.W.findIn K (.ref C) f = some none
  sup : mg "super" = none
/-- the scope of such a def -/
structure Sco (x : Str) (sc : Scope) : Prop where
  kind : sc.kind = .function
  co : sc.isCoroutine = false
  gen : sc.isGenerator = false
  self : sc.names.lookup ("self" : Str) = some .local
  arg : sc.names.lookup x = some .local
  sup : sc.names.lookup ("super" : Str) = some .globalImplicit
  cls : sc.names.lookup ("__class__" : Str) = some .free
  only : ∀ y ∈ sc.names, y.2 ≠ .cell ∧ (y.2 = .free → y.1 = "__class__")
  ne : x ≠ ("self" : Str)
/-- the context of its body -/
def cx1 (P : Program) (w : World) (K : PySem.W.Frag) (mg : Str → Option Value) (base : Heap) (x qual : Str) (sc : Scope) (f : Addr) (cd : Value) (cc : Addr) (A : Around) (outer : List Env) (s : Shared) (H : Hp) (xe : Value → Shared → Prop) : Cx where
  prog := P
  w := w
  K := K
  mg := mg
  base := base
  A := A.deeper (PySem.W.ksEnv qual sc s.heap.objs.size f cd cc)
  N := [("self" : Str), x]
  s_0 := s
  H_0 := H
  env := PySem.W.ksEnv qual sc s.heap.objs.size f cd cc
  outer := outer
  stack := PySem.W.ksEnv qual sc s.heap.objs.size f cd cc :: outer
  ex := []
  fn := fun _ => false
  calm := true
  pn := []
  xe := xe
section
variable {P : Program} {w : World} {K : PySem.W.Frag} {mg : Str → Option Value} {base : Heap} {x qual : Str} {sc : Scope} {f cc : Addr} {cd : Value} {A : Around} {outer : List Env} {s : Shared} {H : Hp} {xe : Value → Shared → Prop} {k : Nat}
theorem inv1 (S : Sco x sc) (hr : Room k A) (e0 : Env0 P w K mg base A outer s H) {oc : Value} {od : Option Addr} {D : Addr} {osl : Array (Option Value)} (hcc : K.lookup cc = some ⟨oc, od, .cell (some (.ref D)), osl⟩) {h : Heap} {tk : Nat} {v1 v2 : V} {u1 u2 : Value} (r1 : RelV v1 u1) (r2 : RelV v2 u2)
    (hns : h.Ns s.heap.objs.size (fun y => ([("self" : Str), x].zip [u1, u2]).reverse.lookup y)) (hk : ∀ b o, s.heap.get? b = some o → h.get? b = some o) :
    Inv (cx1 P w K mg base x qual sc f cd cc A outer s H xe) [] [some v1, some v2] H { s with heap := h, toks := tk } := by
  have KX : K.In s.heap := e0.mod.kin.keeps fun b o e => (e0.bs b o e).1
  have lk1 : ∀ y c, ([(("__class__" : Str), cc)] : List (Str × Addr)).lookup y = some c → y = "__class__" ∧ c = cc := fun y c h => by
    by_cases e : y = "__class__"
    · subst e
      exact ⟨rfl, by simpa using h.symm⟩
    · have : (y == ("__class__" : Str)) = false := by simpa using e
      simp [List.lookup, this] at h
  have Hc : H cc = none := (e0.bs cc _ (e0.mod.kin _ _ hcc)).2
  have memN : ∀ {y : Str} {z : NameKind}, sc.names.lookup y = some z → (y, z) ∈ sc.names := fun {y z} e => PySem.mem_of_lookup e
  refine ⟨⟨e0.mod, S.kind, rfl, rfl, Nat.le_refl _, fun y z c h1 h2 => (lk1 y c h1).1.trans (lk1 z c h2).1.symm, fun y hy => ?_, fun y c h _ => Bool.noConfusion (show false = true from h), fun _ => hr.hd, Around.frames_deeper e0.frames, .inr ⟨rfl, rfl⟩, fun b z => (by cases z), e0.bs, e0.bsz, fun b _ _ z => (by cases z), fun b z => (by cases z), e0.funs, e0.frf⟩,
    rfl, e0.bare, Un.kept hk, ⟨_, hns, fun i y v h1 h2 h3 => ?_⟩, fun y c h => ?_, e0.hok.fresh (Nat.le_refl _), fun y c h => ?_, fun p hp => (by cases hp), e0.hok.kept hk, rfl⟩
  · rcases hy with hy | hy
    · exact absurd rfl (S.only _ (memN hy)).1
    · have e := (S.only _ (memN hy)).2 rfl
      exact ⟨cc, by show ([(("__class__" : Str), cc)] : List (Str × Addr)).lookup y = some cc; rw [show y = "__class__" from e]; rfl⟩
  · match i, h1, h2 with
    | 0, h1, h2 =>
      cases h1
      cases h2
      refine ⟨u1, r1, .inl ⟨S.self, ?_⟩⟩
      have ne : (("self" : Str) == x) = false := by simpa using (fun z => S.ne z.symm : ("self" : Str) ≠ x)
      simp [List.lookup, ne]
    | 1, h1, h2 =>
      cases h1
      cases h2
      refine ⟨u2, r2, .inl ⟨S.arg, ?_⟩⟩
      simp [List.lookup]
    | i + 2, h1, h2 => simp at h2
  · obtain ⟨rfl, rfl⟩ := lk1 y c h
    exact ⟨_, _, hk _ _ (KX _ _ hcc), rfl⟩
  · obtain ⟨rfl, rfl⟩ := lk1 y c h
    exact Hc
end
end SupX
namespace SupX
open PySem PySem.Spec PyProof.Rows L2
section
variable {X : Cx} {pins : List (Addr × Obj)} {σ : L2.St} {H : Hp} {s : Shared} {a C u : Addr}
/-- the bound ValueError.__init__, called: nothing of it is told -/
theorem mw_call {A : Around} {E : Value → Shared → Prop} {us : List Value} {Q : Value → Shared → Prop} (T : OexC X.K C) (I : Inv X pins σ H s) (hu : s.heap.get? u = some (PySem.W.kxs_mw "ValueError.__init__" a)) (e : H a = some (exo a C none)) (hz : us.length ≤ sizeLine)
    (h : ∀ s', Inv X pins σ H s' → Q .none s') : wpAny (model X.prog X.w) A (call (.ref u) us) Q E s := by
  obtain ⟨n0, q0, N0, bs0, bm0, sn0, su0, ab0, col0, dd0, j0, j1, j2, j3, j5, hK, hm⟩ := T.cls
  obtain ⟨t1, ho⟩ := exo_at I.hok e
  obtain ⟨hp, gs, dr, tk, os⟩ := s
  refine wpAny_call (codeAny_of_tree (by
    show wpAny _ A.in1 (callAny (.ref u) ⟨us, []⟩) _ _ _
    simp only [callAny]
    refine wpAny_bind (wpAny_load hu ?_)
    simp only [PySem.W.kxs_mw]
    refine PySem.W.KFB.if_so (by decide) ?_
    refine wpAny_bind (PySem.W.check_bound_init PySem.F.excBase_ValueError.toExcCallFacts (I.kIn _ _ hK) ho rfl (wpAny_bind (wpAny_pure (wpAny_pure ?_))))
    refine ⟨plainId_quiet PySem.F.excBase_ValueError.init.plain _, codeAny_builtin PySem.F.excBase_ValueError.initEntry ?_⟩
    refine PySem.W.exc_init_tree (t0 := t1) (cls := .ref C) (c2 := .none) (dv := none) (c3 := .none) (b4 := .bool false) ho hz fun h' k hx _ => ?_
    have J := I.write (x := a) (e := a) (t' := tk) (o := exo a C none) (by rw [e]; trivial) (.inl rfl) k ⟨_, hx⟩ (exo_ok hx)
    have same : upd H a (exo a C none) = H := funext fun b => by
      by_cases hb : b = a
      · rw [hb, upd_same, e]
      · exact upd_ne hb
    rw [same] at J
    exact h _ J))
end
/-- a number whose text is short -/
def Sm (v : Int) : Prop := v.natAbs.log2 < 1920 ∧ (toString v : Str).length ≤ 1000
/-- the text of the error -/
def tTxt : TE := fun σ H Q => ∃ v : Int, σ[1]? = some (some (.int v)) ∧ Sm v ∧ ∀ z : Str, Q (.str z) H
def spI (C : Addr) (f : Str) : Sp := fun vs H Q _ => ∃ (a : Addr) (v : Int), vs = [.ref a, .int v] ∧ Sm v ∧ H a = some (exo a C none) ∧ ∀ dx, H dx = none → dx ≠ a → Q .non (upd (upd H dx (exd dx [(f, .int v)])) a (exo a C (some dx)))
section
variable {P : Program} {w : World} {K : PySem.W.Frag} {mg : Str → Option Value} {base : Heap} {x f qual : Str} {st : Stmt} {C fI : Addr} {CX : CXT} {jv : List Expr} {p0 p1 p2 p3 p4 p5 p6 p7 p8 p9 : Pos}
theorem ok_init (M : InitAt P K C fI qual st) (T : ClsAt K mg C f) (S : Sco x (defScope st)) (hpar : ∃ ar, ((defArgs st).posonlyargs ++ (defArgs st).args).head? = some ar ∧ ar.arg = "self")
    (hbody : defBody st = [.Expr (.Call (.Attribute (.Call (.Name "super" p0) [] [] p1) "__init__" p2) [.JoinedStr jv p9] [] p3) p4, .Assign [.Attribute (.Name "self" p5) f p6] (.Name x p7) p8])
    (he : ∀ Y : Cx, Y.N = [("self" : Str), x] → Y.env.scope = defScope st → PE Y (.JoinedStr jv p9) tTxt)
    (hcall : ∀ env : Env, ∃ pl : Sem Bool, eval (.Call (.Attribute (.Call (.Name "super" p0) [] [] p1) "__init__" p2) [.JoinedStr jv p9] [] p3) env = (do
      let o0 ← attributeBase (.Call (.Name "super" p0) [] [] p1) "__init__" env (eval (.Call (.Name "super" p0) [] [] p1) env)
      standAt p2.atName
      let (g, first) ← holding [o0] (getMethod o0 "__init__" pl)
      callWith p3 g first (backTo p3 (starEach [.JoinedStr jv p9] env)) []))
    (htop : (P.main.scope.names.lookup ("super" : Str)).isSome = false) (hx : (x == ("__debug__" : Str)) = false) (hx2 : (x == ("__classdict__" : Str)) = false)
    (hbind : ∀ (kV doc pm : Value) (an : Option Addr) (cl : List (Str × Addr)) (cdv ct : Value) (us : List Value), us.length = 2 → bindArgs (PySem.W.fnX "__init__" qual (defArgs st) (defBody st) (defScope st) cl .none kV doc pm an cdv ct) ⟨us, []⟩ = pure ([("self" : Str), x].zip us)) :
    ∃ fd, FnOk P w K mg base CX 1 fI fd [("self" : Str), x] (spI C f) ∧ Binds K fd [("self" : Str), x] [] := by
  obtain ⟨oc, od, kV, doc, pm, an, cda, cc, ct, osl, ccl, cdd, vs0, ccs, file, tf, cl, cld, csl, lk, hcd, lc, hv2, hfile, lcc⟩ := M.ex
  refine ⟨PySem.W.fnX "__init__" qual (defArgs st) (defBody st) (defScope st) [(("__class__" : Str), cc)] .none kV doc pm an (.ref cda) ct, ⟨fun vs H Q E h => ?_, fun A outer s H args us vs Q E hr e0 hb r h => ?_⟩, fun s us X hl => ?_⟩
  · obtain ⟨a, v, rfl, _⟩ := h
    rfl
  · obtain ⟨a, v, rfl, hv, ea, k⟩ := h
    have KX : K.In s.heap := e0.mod.kin.keeps fun b o e => (e0.bs b o e).1
    obtain ⟨u1, u2, rfl⟩ : ∃ u1 u2, us = [u1, u2] := by
      cases r with
      | cons r1 r =>
        cases r with
        | cons r2 r =>
          cases r
          exact ⟨_, _, rfl⟩
    have r1 : RelV (.ref a) u1 := by cases r; assumption
    have r2 : RelV (.int v) u2 := by
      cases r with
      | cons _ r => cases r; assumption
    obtain rfl : u1 = Value.ref a := r1
    refine PySem.ks_codeAny_call_defAt (fd := PySem.W.fnX "__init__" qual (defArgs st) (defBody st) (defScope st) [(("__class__" : Str), cc)] .none kV doc pm an (.ref cda) ct) (binds := [("self" : Str), x].zip [Value.ref a, u2]) (body := defBody st) hr.depth (KX _ _ lk) rfl (e0.mod.nolimit.keeps fun b o e => (e0.bs b o e).1)
      (PySem.W.codeRec_of KX hcd) rfl hb (fun y hy => (S.only y hy).1) (fun y hy => ?_) (fun h₀ hns hk => ?_) S.co S.gen S.kind
    · have : y = (("self" : Str), Value.ref a) ∨ y = (x, u2) := by simpa using hy
      rcases this with rfl | rfl
      · exact S.self
      · exact S.arg
    · let xe : Value → Shared → Prop := fun e' s' => wpAny (model P w) (A.deeper (PySem.W.ksEnv qual (defScope st) s.heap.objs.size fI (.ref cda) cc)) (leaving (PySem.W.ksEnv qual (defScope st) s.heap.objs.size fI (.ref cda) cc) e') (fun _ s'' => CR CX outer P w H s Q E (.error e') s'') (fun e'' s'' => CR CX outer P w H s Q E (.error e'') s'') s'
      let X : Cx := cx1 P w K mg base x qual (defScope st) fI (.ref cda) cc A outer s H xe
      have I : Inv X [] [some (.ref a), some (.int v)] H { s with heap := h₀, toks := s.toks + ([("self" : Str), x].zip [Value.ref a, u2]).length } := inv1 S hr e0 lcc rfl r2 hns hk
      obtain ⟨ar, har, hself⟩ := hpar
      obtain ⟨n0, q0, N0, bs0, bm0, sn0, su0, ab0, col0, dd0, j0, j1, j2, j3, j5, hC, hm⟩ := T.oex.cls
      obtain ⟨cdC, hcd1, hcd2⟩ : ∃ cd, PySem.W.clsIn K C = some cd ∧ ∀ h : Heap, K.In h → ∃ oD, h.get? C = some oD ∧ oD.data = .cls cd :=
        ⟨_, by unfold PySem.W.clsIn; rw [hC] <;> rfl, fun h X => ⟨_, X _ _ hC, rfl⟩⟩
      obtain ⟨t1, ho⟩ := exo_at I.hok ea
      obtain ⟨oD, hD1, hD2⟩ := hcd2 _ I.kIn
      obtain ⟨mb, hb1, hb2⟩ := I.mod.blt
      have hup := T.up
      unfold PySem.W.ks_superIn at hup
      rw [hcd1] at hup
      show _root_.PySem.wpAt (model P w) (A.deeper X.env) (.func (defBody st) X.env) (execs (defBody st) X.env) _ _ _
      rw [hbody]
      obtain ⟨pl, hpl⟩ := hcall X.env
      refine PySem.ks_wpAt_execs_cons (PySem.ks_wpAt_Expr_any (PySem.ks_wpAt_MethodCall (PySem.ks_wpAt_super_base (ar := ar) S.sup S.cls (by decide) rfl (I.kIn _ _ lk) rfl har rfl (I.kIn _ _ lc) rfl hv2 hfile htop
        (PySem.W.ks_loadName_global S.kind S.sup (Calls.loadGlobal_builtin (I.mod.glob.keeps I.bk) T.sup (hb1.keeps I.bk) ((hb2 "super" (by decide)).trans (by decide +kernel)) ⟨rfl, wpAny_loadName_free S.kind S.cls rfl ⟨_, I.kIn _ _ lcc, rfl⟩ ?_⟩))) hpl) (by show interactive (PySem.W.ksEnv _ _ _ _ _ _) = false; unfold interactive; simp [Env.blockKind, S.kind]))
      rw [hself]
      refine wpAny_loadName_local (v := .ref a) S.kind S.self hns (by simp [List.lookup, (by simpa using (fun z => S.ne z.symm : ("self" : Str) ≠ x) : (("self" : Str) == x) = false)]) ?_
      refine ks_wpAny_isType_cls hD1 hD2 ⟨rfl, ks_wpAny_call_super hD1 hD2 ho rfl (fun c z => by cases z) (PySem.W.looks_mroIn I.kIn T.own) fun h1 e1 k1 => ?_⟩
      have I1 : Inv X [] [some (.ref a), some (.int v)] H ⟨h1, s.gens, s.drawn, s.toks + ([("self" : Str), x].zip [Value.ref a, u2]).length, s.os⟩ := I.kept (t' := _) k1
      obtain ⟨t2, ho1⟩ := exo_at I1.hok ea
      have at1 : PySem.W.InstAt h1 a { cls := .ref C, dict := none, data := .fields #[.ref t2, .none, .none, .none, .bool false, .none] } C none := ⟨ho1, rfl, rfl, trivial⟩
      refine PySem.W.kxs_getMethod PySem.W.kxs_ValueError e1 (PySem.W.looks_opaque I1.kIn T.st) (l₀ := cdC.mro) (fun A' Q' E' s' k' q' => wpAny_bind ((PySem.W.looks_clsIn I1.kIn hcd1) A' _ E' s' k' (wpAny_pure q'))) rfl I1.kIn hup (at1.type.andThen (PySem.W.looks_subIn I1.kIn T.ve)) (PySem.W.ks_ne I1.kIn at1 hcd1) (by decide) ?_
      have hu : (h1.push (PySem.W.kxs_mw "ValueError.__init__" a)).get? h1.objs.size = some (PySem.W.kxs_mw "ValueError.__init__" a) := Heap.get?_push_size _ rfl
      have I2 : Inv X [] [some (.ref a), some (.int v)] H ⟨h1.push (PySem.W.kxs_mw "ValueError.__init__" a), s.gens, s.drawn, s.toks + ([("self" : Str), x].zip [Value.ref a, u2]).length + 1, s.os⟩ := I1.kept (t' := _) fun b o e => Heap.get?_push_of_some _ e
      have fp := I1.fpOk (H' := H) (Nat.le_refl _) (I1.hok.fresh (Nat.le_refl _))
      have I3 : Inv X [(h1.objs.size, PySem.W.kxs_mw "ValueError.__init__" a)] [some (.ref a), some (.int v)] H ⟨h1.push (PySem.W.kxs_mw "ValueError.__init__" a), s.gens, s.drawn, s.toks + ([("self" : Str), x].zip [Value.ref a, u2]).length + 1, s.os⟩ := I2.pins_of fun p hp => by
        have e : p = (h1.objs.size, PySem.W.kxs_mw "ValueError.__init__" a) := by simpa using hp
        subst e
        exact ⟨hu, fp.1, fp.2.1, fp.2.2.1, fun v z => by cases z⟩
      have hargs := (pa_cons (he X rfl rfl) pa_nil (X := X)).run p3 _ _ _ H (fun vs G => G = H ∧ ∃ z : Str, vs = [.str z]) I3 ⟨v, rfl, hv, fun z => ⟨rfl, z, rfl⟩⟩
      show wpAny (model P w) (A.deeper X.env) (callWith p3 (.ref h1.objs.size) [] (backTo p3 (starEach [.JoinedStr jv p9] X.env)) []) _ _ _
      refine PySem.W.kxs_callWith (i := "ValueError.__init__") (x := a) rfl (Calls.evalArgs_plain (thn hargs fun us s3 ⟨ws, G, I4, r4, eG, z, ez⟩ => ?_))
      subst eG ez
      refine ⟨(I4.pin _ (List.mem_append_right _ List.mem_cons_self)).1, mw_call T.oex I4 (I4.pin _ (List.mem_append_right _ List.mem_cons_self)).1 ea (by show us.length ≤ sizeLine; rw [← Paired.length r4]; exact (by decide : 1 ≤ sizeLine)) fun s4 J => ?_⟩
      refine PySem.wpAt_of_wpAny (thn ((pss_one (ps_ost (pe_var (i := 0) rfl (.inl S.self)) (pe_var (i := 1) rfl (.inl S.arg) hx hx2))).run _ s4 _ _ { nx := fun _ G => Q .non G, rt := Q, bk := fun _ _ => False, ct := fun _ _ => False } J
        ⟨_, rfl, _, rfl, a, C, rfl, T.oex, T.no, .inl ⟨ea, fun dx n ne => k dx n ne⟩⟩) fun fl s5 q => ?_)
      match fl, q with
      | .next, ⟨σ', G, J5, q⟩ => exact ⟨V.non, G, J5.os, J5.bare, J5.base, J5.hok, rfl, q⟩
      | .ret u, ⟨v5, σ', G, J5, r5, q⟩ => exact ⟨v5, G, J5.os, J5.bare, J5.base, J5.hok, r5, q⟩
      | .brk, ⟨_, _, _, q⟩ => exact q.elim
      | .cont, ⟨_, _, _, q⟩ => exact q.elim
  · have hl2 : us.length = 2 := by rw [List.append_nil] at hl; exact hl
    rw [List.append_nil]
    exact BindsTo.of_eq (hbind _ _ _ _ _ _ _ us hl2)
end
end SupX

set_option Elab.async false
set_option linter.all false
set_option maxRecDepth 100000
set_option maxHeartbeats 2000000
namespace SupX
open PySem PySem.Spec PyProof.Rows L2
/-! ### a, .., *rest = a tuple: the star last -/
section
variable {prog : Program} {w : World} {A : Around} {E : Value → Shared → Prop} {s : Shared}
theorem star_items {l : Addr} {its : Array Value} {i : Nat} {Q : List Value → Shared → Prop} (ht : IsTup s.heap l its) (hh : A.handled = none) (hi : i ≤ its.size) (hz : its.size ≤ 1000)
    (hQ : ∀ (h' : Heap) (tk : Nat), (∀ b o, s.heap.get? b = some o → h'.get? b = some o) → Q (its.toList.take i ++ [.ref h'.objs.size] ++ []) { s with heap := h'.push { cls := .type "list", data := .seq (its.toList.drop i).toArray }, toks := tk }) :
    wpAny (model prog w) A (unpackItems (.ref l) (i + 1) (some i)) Q E s := by
  have ne : l ≠ s.heap.objs.size := by obtain ⟨o, e, _⟩ := ht; exact Nat.ne_of_lt (Heap.lt_size e)
  unfold unpackItems notIterableAtAll
  refine wpAny_bind (wpAny_bind (wpAny_specialOf ht.typeIs slot_tuple_iter.lookup (wpAny_pure ?_)))
  simp only [Bool.false_eq_true, if_false]
  refine wpAny_bind (wpAny_holding (iter_tuple ht (wpAny_bind (wpAny_holding (draw_tuple ne i 0 _ _ ⟨_, Heap.get?_push_size _ rfl, rfl, rfl⟩ (ht.push _) (by omega) fun h1 it1 sb1 => ?_)))))
  have t1 : IsTup h1 l its := (ht.push _).extBut sb1.extBut ne
  rw [Nat.zero_add] at it1
  have l1 : s.heap.objs.size < h1.objs.size := by obtain ⟨o, e, _⟩ := it1; exact Heap.lt_size e
  have l2 : l < h1.objs.size := by obtain ⟨o, e, _⟩ := t1; exact Heap.lt_size e
  have len1 : (its.toList.take i).length = i := by rw [List.length_take, Array.length_toList]; omega
  have len2 : (its.toList.drop i).length = its.size - i := by rw [List.length_drop, Array.length_toList]
  rw [List.drop_zero, if_neg (show ¬ ((its.toList.take i).length < i) by omega)]
  refine wpAny_bind (wpAny_holding (PySem.W.kun_collect (s := { s with heap := h1 }) (k := i) (T := "tuple_iterator") (.inr (.inr (.inr rfl))) (Walks.tuple (A := A.in1) hh s.heap.objs.size l ne its) (fun j u z => z.1.typeIs) hi ⟨it1, t1⟩ l1 l2 (fun h2 tk k2 => ?_) (by rw [sizeLine_eq]; omega)))
  have z0 : i + 1 - 1 - i = 0 := by omega
  rw [if_neg (show ¬ ((its.toList.drop i).length < i + 1 - 1 - i) by omega)]
  simp only [z0, Nat.sub_zero, List.take_length, List.drop_length]
  refine wpAny_bind (wpAny_newList (wpAny_pure (hQ h2 tk fun b o e => ?_)) (by rw [sizeLine_eq]; omega))
  exact k2 b o (Nat.ne_of_lt (Heap.lt_size e)) (sb1.extBut b o (Nat.ne_of_lt (Heap.lt_size e)) (Heap.get?_push_of_some _ e))
end
section
variable {X : Cx} {pos : Pos}
/-- (a, .., *rest), n ahead of the star -/
def gStar (K : PySem.W.Frag) (n : Nat) (t : TGs) : TG := fun v σ H Q => ∃ a xs, v = .ref a ∧ SqT K H a xs ∧ n ≤ xs.length ∧ xs.length ≤ 1000 ∧ ∀ D, H D = none → t (xs.take n ++ [.ref D] ++ []) σ (upd H D (.lst (xs.drop n))) Q
theorem pgs_star {e : Expr} {p : Pos} {t : TG} (h1 : PG X e t) (hs : (assignEach [.Starred e p] X.env).map (·.2) = [assign e X.env] := by rfl) : PGs X [.Starred e p] (gCons t gNil) := by
  refine ⟨fun pins s σ H vs us Q I r h => ?_⟩
  obtain ⟨v, vr, e1, h⟩ := h
  subst e1
  cases r with
  | cons r rr =>
    rw [hs]
    refine assignInOrder_cons (thn (h1.run pins s σ H _ _ _ I r h) fun _ s1 ⟨σ1, H1, I1, q1⟩ => ?_)
    exact (pgs_nil (X := X)).run pins s1 σ1 H1 _ _ Q I1 rr q1
theorem pg_star {es : List Expr} {k : Nat} {t : TGs} {n : Nat} (hc : X.calm = true) (h : PGs X es t) (hn : (assignEach es X.env).length = n + 1 := by rfl) (hst : (assignEach es X.env).findIdx? (·.1) = some n := by rfl) : PG X (.Tuple es k pos) (gStar X.K n t) := by
  refine ⟨fun pins s σ H v u Q I r hw => ?_⟩
  obtain ⟨a, xs, e1, hq, hl, hz, hw⟩ := hw
  subst e1
  cases r
  obtain ⟨its, rv, ht, _⟩ := I.tuple hq
  have el : xs.length = its.length := rv.length
  rw [assign_Tuple]
  refine wpAny_bind (wpAny_standAt ?_)
  unfold unpack
  rw [hn, hst]
  refine wpAny_bind (wpAny_holding (star_items ht (I.ok.hd hc) (by simp; omega) (by simp; omega) fun h' tk hk => ?_))
  have I1 : Inv X pins σ H { s with heap := h', toks := tk } := I.kept (t' := tk) hk
  have rd : Vals (xs.drop n) (its.drop n) := rv.drop n
  have I2 : Inv X pins σ (upd H h'.objs.size (.lst (xs.drop n))) { s with heap := h'.push { cls := .type "list", data := .seq (its.drop n).toArray }, toks := tk } :=
    I1.laid (t' := tk) (fun b o e => Heap.get?_push_of_some _ e) (Nat.le_refl _) (show ObjOk X.prog X.w _ _ _ (.lst (xs.drop n)) from ⟨by rw [List.length_drop, sizeLine_eq]; omega, its.drop n, 0, rd, Heap.get?_push_size _ rfl⟩)
  have e0 : its.toArray.toList = its := rfl
  show wpAny _ _ (assignInOrder _ (its.take n ++ [.ref h'.objs.size] ++ [])) _ _ { s with heap := h'.push { cls := .type "list", data := .seq (its.drop n).toArray }, toks := tk }
  exact h.run pins _ σ _ _ _ Q I2 (((rv.take n).append (.cons (show L2.RelV (V.ref h'.objs.size) (Value.ref h'.objs.size) from rfl) .nil)).append .nil) (hw _ (I1.hok.fresh (Nat.le_refl _)))
end
end SupX
namespace SupX
open PySem PySem.Spec PyProof.Rows L2
/-! ### raise C(e): C's own __init__ says super().__init__(f'..') and stores e -/
def tMkS (C : Addr) (f : Str) (te : TE) : L2.St → Hp → XK → Prop := fun σ H Q => te σ H fun y H1 => ∃ n : Int, y = .int n ∧ Sm n ∧ ∀ d, H1 d = none → Q (.ref C) (some d) (upd H1 d (.xd [(f, .int n)]))
theorem heap_back {H : Hp} {a d : Addr} {fs : List (Str × V)} {o1 o2 o3 : HO} (ha : H a = none) (ne : d ≠ a) : upd (del (upd (upd (upd H a o1) d o2) a o3) a) d (.xd fs) = upd H d (.xd fs) := funext fun b => by
  by_cases hd : b = d
  · rw [hd, upd_same, upd_same]
  · rw [upd_ne hd, upd_ne hd]
    by_cases hb : b = a
    · rw [hb, del_same, ha]
    · rw [del_ne hb, upd_ne hb, upd_ne hd, upd_ne hb]
theorem pmk_sup {X : Cx} {x x0 f qual : Str} {C fI : Addr} {fd : FuncData} {st : Stmt} {e : Expr} {te : TE} {p pos : Pos} (T : ClsAt X.K X.mg C f) (M : InitAt X.prog X.K C fI qual st) (F1 : FnOk X.prog X.w X.K X.mg X.base CX0 1 fI fd [("self" : Str), x0] (spI C f)) (hb : L2.Binds X.K fd [("self" : Str), x0] []) (hr : Room 2 X.A)
    (hg : Gl X x) (hm : X.mg x = some (.ref C)) (he : PE X e te) (hdb : (x == ("__debug__" : Str)) = false := by decide) (hst : starEach [e] X.env = (false, eval e X.env) :: starEach [] X.env := by rfl) (hpl : (backTo pos (starEach [] X.env)).any (·.1) = false := by rfl) :
    L2N.PMk X (.Call (.Name x p) [e] [] pos) (tMkS C f te) := by
  intro pins s σ H Q I h
  obtain ⟨n0, q0, N0, bs0, bm0, sn0, su0, ab0, col0, dd0, j0, j1, j2, j3, j5, hC, hbm⟩ := T.oex.cls
  refine wpAny_Call_Name_kw (ld_glob I hg hm (PySem.W.callWith_K (h₀ := X.base) I.ok.mod.kin T.oex.kC (thn ((pa_cons he pa_nil hst).run pos pins s σ H (fun vs H1 => match vs with | [y] => (∃ n : Int, y = .int n ∧ Sm n ∧ ∀ d, H1 d = none → Q (.ref C) (some d) (upd H1 d (.xd [(f, .int n)]))) | _ => False) I h) fun us s1 hq => ?_) hst hpl) hdb)
  obtain ⟨vs, H1, I1, r1, q0⟩ := hq
  obtain ⟨n, ev, hn, q1⟩ : ∃ n : Int, vs = [.int n] ∧ Sm n ∧ ∀ d, H1 d = none → Q (.ref C) (some d) (upd H1 d (.xd [(f, .int n)])) := by
    match vs, q0 with
    | [y], ⟨n, e, q⟩ => exact ⟨n, by rw [e], q⟩
  subst ev
  refine ⟨I1.kIn, ?_⟩
  show wpAny _ _ (call (.ref C) us) _ _ _
  obtain ⟨hp, g, dr, tk, os⟩ := s1
  have hus : us.length = 1 := by rw [← r1.length]; rfl
  have h1 : H1 (hp.objs.size + 1) = none := I1.hok.fresh (Nat.le_succ _)
  have grow : ∀ b o, hp.get? b = some o → ((hp.push (PySem.W.kdv_tup us)).push (PySem.HandSPX.excO C hp.objs.size)).get? b = some o := fun b o z => Heap.get?_push_of_some _ (Heap.get?_push_of_some _ z)
  have at1 : ((hp.push (PySem.W.kdv_tup us)).push (PySem.HandSPX.excO C hp.objs.size)).get? (hp.objs.size + 1) = some (PySem.HandSPX.excO C hp.objs.size) := by heap_get
  have I2 : Inv X pins σ (upd H1 (hp.objs.size + 1) (exo (hp.objs.size + 1) C none)) ⟨(hp.push (PySem.W.kdv_tup us)).push (PySem.HandSPX.excO C hp.objs.size), g, dr, tk, os⟩ := I1.laid (o := exo (hp.objs.size + 1) C none) (t' := tk) grow (Nat.le_succ _) (exo_ok at1)
  have r2 : Vals (V.ref (hp.objs.size + 1) :: [V.int n]) (Value.ref (hp.objs.size + 1) :: us) := .cons rfl r1
  have b2 := hb _ (Value.ref (hp.objs.size + 1) :: us) I2.kIn (by rw [List.append_nil, List.length_cons, hus]; rfl)
  rw [List.append_nil] at b2
  have big : us.length ≤ sizeLine := by rw [hus]; decide
  refine wpAny_call (PySem.HandSPX.call_own PySem.F.excBase_ValueError (fun Y => PySem.HandSPX.refsVE_contains Y bm0 hbm) (I1.kIn _ _ hC) (PySem.W.looks_findIn I1.kIn M.init) (fun o => PySem.W.bind_fn I1.kIn o M.ty) big
    (codeAny_mono (F1.run _ X.stack _ _ ⟨Value.ref (hp.objs.size + 1) :: us, []⟩ (Value.ref (hp.objs.size + 1) :: us) [V.ref (hp.objs.size + 1), V.int n]
      (fun v H2 => v = .non ∧ ∃ d, H1 d = none ∧ d ≠ hp.objs.size + 1 ∧ H2 = upd (upd (upd H1 (hp.objs.size + 1) (exo (hp.objs.size + 1) C none)) d (exd d [(f, .int n)])) (hp.objs.size + 1) (exo (hp.objs.size + 1) C (some d))) (fun _ _ _ => False) (hr.make C us []) (I2.env0.make C us []) b2 r2
      ⟨_, n, rfl, hn, upd_same, fun d hd ne => ⟨rfl, d, by rw [upd_ne ne] at hd; exact hd, ne, rfl⟩⟩) fun r s' hq => ?_))
  cases r with
  | error er => exact False.elim hq
  | ok fl =>
    cases fl with
    | ret u =>
      obtain ⟨v, H2, os2, bare2, un2, hok2, rv, ev, d, hd, ne, eH⟩ := hq
      subst ev eH
      obtain ⟨h2, g2, d2, t2, os'⟩ := s'
      obtain ⟨t0, G, J, kG, ge, hoe, _⟩ := mk_end0 (a := hp.objs.size + 1) (C := C) (d := d) (d2 := d2) (t2 := t2) (fs := [(f, .int n)]) I1 (Nat.le_succ _) grow un2 hok2 os2 bare2 upd_same (by rw [upd_ne ne, upd_same]) hd
      rw [heap_back h1 ne] at J
      have na : upd H1 d (.xd [(f, .int n)]) (hp.objs.size + 1) = none := by rw [upd_ne ne.symm]; exact h1
      exact ⟨rv, hp.objs.size + 1, _, _, ⟨G, g2, d2, t2, os'⟩, _, .ref C, some d, rfl, J, kG, ge, hoe, ⟨rfl, rfl, fun vs hv => (by cases hv; rfl)⟩, rfl, rfl, na, rfl, bare2, raises_own T.oex.exC T.oex.tyC, q1 d hd⟩
    | next => exact False.elim hq
    | brk => exact False.elim hq
    | cont => exact False.elim hq
end SupX

set_option Elab.async false
set_option linter.all false
set_option maxRecDepth 100000
set_option maxHeartbeats 2000000
/-! A generator expression's frame as a context of the hand layer: names and slots are the def's, its own names are forgotten at first; fp: the iterator's addresses -/
namespace GenX
open PySem PySem.Spec PyProof.Rows L2 GenW
def gexCx (X : Cx) (B : Around) (s : Shared) (H : Hp) (env : Env) (fp : List Addr) (pn : List (Addr × Obj)) : Cx :=
  { prog := X.prog, w := X.w, K := X.K, mg := X.mg, base := X.base, A := B.deeper env, N := X.N, s_0 := s, H_0 := H, env := env, outer := X.stack, stack := env :: X.stack, ex := fp,
    fn := fun _ => false, calm := true, pn := pn, xe := fun _ _ => False }
section
variable {X : Cx} {pins : List (Addr × Obj)} {σ : L2.St} {H : Hp} {s : Shared}
/-- the frame has come: nothing but «.0» stands in it -/
theorem gex_start {B : Around} {scope : Scope} {own : List (Str × Nat)} {fp : List Addr} {code it : Value} {s2 : Shared} (I : Inv X pins σ H s) (ok : BlkOk X.N X.env.scope scope own) (hN : X.N.Nodup) (hcell : ∀ y ∈ scope.names, y.2 ≠ .cell) (hfp : ∀ b ∈ fp, FpOk X pins H b ∧ b < s.heap.objs.size)
    (hd : B.handled = none) (hfr : B.frames = some X.stack) (os : s2.os = s.os) (hb : AllBare s2.gens) (kp : ∀ b o, s.heap.get? b = some o → s2.heap.get? b = some o)
    (hns : s2.heap.Ns s.heap.objs.size fun y => if y = ".0" then some it else none) :
    Inv (gexCx X B s H (genEnv scope (cloFrom X.env.cells scope.names []) s.heap.objs.size code builtinsNs X.env) fp []) [] (wipe σ (own.map (·.2))) H s2 := by
  have e0 := I.env0
  have fr : ∀ y ∈ scope.names, y.2 = .free → ∃ c, X.env.cells.lookup y.1 = some c := fun y hy e => (ok.free y hy e).elim (fun k => I.ok.has _ (.inl k)) fun k => I.ok.has _ (.inr k)
  have back : ∀ {y c}, (cloFrom X.env.cells scope.names []).lookup y = some c → X.env.cells.lookup y = some c := fun {y c} e => by
    rcases cloFrom_mem (PySem.mem_of_lookup e) with z | ⟨z1, z2⟩
    · cases z
    · obtain ⟨d, hd'⟩ := fr _ z1 rfl
      have hd' : X.env.cells.lookup y = some d := hd'
      rw [hd'] at z2
      rw [z2]
      exact hd'
  have there : ∀ {y}, scope.names.lookup y = some .free → ∃ c, (cloFrom X.env.cells scope.names []).lookup y = some c := fun {y} hl => mem_lookup (cloFrom_has (cells := X.env.cells) (acc := []) (show (y, NameKind.free) ∈ scope.names from PySem.mem_of_lookup hl))
  have bsF : ∀ b o, X.base.get? b = some o → b ∉ fp := fun b o e z => by
    obtain ⟨_, _, _, k, _⟩ := (hfp b z).1
    rcases k with k | k
    · exact I.ok.noex b o e k
    · have := Heap.lt_size (I.ok.bs b o e).1
      exact absurd (Nat.lt_of_lt_of_le this k) (Nat.lt_irrefl _)
  have fsF : ∀ b ∈ fp, b ∉ frs X.stack := fun b z hm => by
    obtain ⟨_, k1, k2, _⟩ := (hfp b z).1
    rcases List.mem_cons.mp (I.stkSub b hm) with k | k
    · exact k1 k
    · exact k2 k
  have okX : (gexCx X B s H (genEnv scope (cloFrom X.env.cells scope.names []) s.heap.objs.size code builtinsNs X.env) fp []).Ok := by
    refine ⟨e0.mod, ok.kind, I.ok.glob, rfl, Nat.le_refl _, (fun y z c a b => I.ok.inj y z c (back a) (back b)), (fun y hy => ?_), (fun y c z _ => nomatch z), (fun _ => hd), Around.frames_deeper hfr, .inr ⟨rfl, rfl⟩, (fun b z => ⟨Nat.ne_of_lt (hfp b z).2, fun y c e => (hfp b z).1.2.2.2.2.1 y c (back e)⟩), e0.bs, e0.bsz, bsF, fsF, e0.funs, e0.frf⟩
    rcases (show scope.names.lookup y = some .cell ∨ scope.names.lookup y = some .free from hy) with k | k
    · exact absurd rfl (hcell _ (PySem.mem_of_lookup k))
    · exact there k
  refine ⟨okX, os, hb, Un.kept kp, ⟨_, hns, fun i y v e1 e2 e3 => ?_⟩, fun y c e => ?_, I.hok.fresh (Nat.le_refl _), fun y c e => I.freeC y c (back e), (fun p hp => nomatch hp), I.hok.kept kp, by rw [wipe_length]; exact I.len⟩
  · obtain ⟨e2, hi⟩ := wipe_some e2
    have e1 : X.N[i]? = some y := e1
    have mine : ∀ k, scope.names.lookup y = some k → (k = .local ∨ k = .cell) → False := fun k hk hl => by
      rcases ok.own _ (PySem.mem_of_lookup hk) hl with z | z
      · obtain ⟨q, hq, eq⟩ := List.mem_map.mp z
        have eq : q.1 = y := eq
        have hx := ok.ix q hq
        rw [eq] at hx
        have e9 : i = q.2 := (List.getElem?_inj (List.getElem?_eq_some_iff.mp e1).1 hN).mp (e1.trans hx.symm)
        exact hi (List.mem_map.mpr ⟨q, hq, e9.symm⟩)
      · exact z (List.mem_of_getElem? e1)
    rcases (show Vis scope y from e3) with k | k | k
    · exact (mine _ k (.inl rfl)).elim
    · exact (mine _ k (.inr rfl)).elim
    · obtain ⟨m, hn, hl⟩ := I.loc
      have kd := ok.free _ (PySem.mem_of_lookup k) rfl
      have kd : X.env.scope.names.lookup y = some .cell ∨ X.env.scope.names.lookup y = some .free := kd
      obtain ⟨u, r, q⟩ := hl i y v e1 e2 (.inr kd)
      obtain ⟨c, hc⟩ := there k
      refine ⟨u, r, .inr ⟨.inr k, c, hc, ?_⟩⟩
      rcases q with ⟨k', _⟩ | ⟨_, c3, e', z⟩
      · have k' : X.env.scope.names.lookup y = some .local := k'
        rcases kd with k2 | k2 <;> rw [k2] at k' <;> cases k'
      · have := back hc
        rw [this] at e'
        cases e'
        exact z.keeps kp
  · obtain ⟨v, hv⟩ := I.cell y c (back e)
    exact ⟨v, hv.keeps kp⟩
end
end GenX

set_option Elab.async false
set_option linter.all false
set_option maxRecDepth 100000
set_option maxHeartbeats 2000000
namespace GenX
open PySem PySem.Spec PyProof.Rows L2 GenW
/-- its end: all is out -/
def GE (Y : Cx) (S : Addr) (Q : List V → Hp → Prop) : GenEnd := fun n _ r s => r = .ok .next ∧ ∃ ys ip σ H, n + ys.length = sizeLine ∧ GI Y S ip ys σ H s ∧ Q ys H
/-- what the turns do: ys is out ahead of turn i -/
def Turns (J : It) (g : TG) (tt : TT) (te : TE) (vs : List Nat) (σ : L2.St) (cont : List V → Hp → Prop) (W : Nat → Nat → List V → Hp → Prop) : Prop :=
  ∀ i m ys H, W i m ys H → (J.stop i H ∧ cont ys H) ∨ (J.go i H ∧ ∃ Nx : List V → Hp → Prop, (∀ zs H', Nx zs H' → ∃ m', m' < m ∧ W (i + 1) m' zs H') ∧ ∀ x H', J.yld i H x H' →
    g x (wipe σ vs) H' fun σ2 H2 => wipe σ2 vs = wipe σ vs ∧ tt σ2 H2 fun b H3 => if b = true then te σ2 H3 fun y H4 => ys.length < sizeLine ∧ Nx (ys ++ [y]) H4 else Nx ys H3)
section
variable {Y : Cx} {S : Addr} {B : Around} {elt tg iter : Expr} {ifs : List Expr} {scope : Scope} {pos : Pos} {fp : List Addr} {it : Addr} {tn : Nat → Heap → Prop} {J : It} {g : TG} {tt : TT} {te : TE} {vs : List Nat} {σ : L2.St} {cont : List V → Hp → Prop} {W : Nat → Nat → List V → Hp → Prop}
theorem gex_loop (hc : Y.calm = true) (hx : Y.xe = fun _ _ => False) (hf : Y.ex = fp) (hco : Y.env.scope.isCoroutine = false) (hov : ∀ c : Code, c = .compLoop (.GeneratorExp elt [⟨tg, iter, ifs, 0⟩] scope pos) 0 (.ref it) .none Y.env → B.over c [] = Y.A) (hA : Apart Y S) (hpn : ∀ p ∈ Y.pn, p.1 ≠ S) (hpf : ∀ p ∈ Y.pn, p.1 ∉ fp) (hSf : S ∉ fp)
    (T : Turn Y.prog Y.w Y.K tg J fp it tn) (pg : PG Y tg g) (pt : PTs Y ifs tt) (pe : PE Y elt te) (tu : Turns J g tt te vs σ cont W) :
    ∀ (m n i : Nat) (ys : List V) (s₀ s : Shared) (H : Hp), n + ys.length = sizeLine → W i m ys H → GI Y S [] ys (wipe σ vs) H s → tn i s.heap → (∀ b ∈ fp, H b = none) →
      Seg (model Y.prog Y.w) B (GE Y S cont) (GY Y S) n s₀ (.compLoop (.GeneratorExp elt [⟨tg, iter, ifs, 0⟩] scope pos) 0 (.ref it) .none Y.env)
        ((model Y.prog Y.w).den (.compLoop (.GeneratorExp elt [⟨tg, iter, ifs, 0⟩] scope pos) 0 (.ref it) .none Y.env)) [] s := by
  have hover := hov _ rfl
  have stat : ∀ {σ' : L2.St} {H' : Hp} {s' : Shared} {acc : Array Value} {c : Nat}, Inv Y [(S, lstObj acc c)] σ' H' s' → (∀ b ∈ fp, H' b = none) → ∀ b ∈ fp, FpOk Y [(S, lstObj acc c)] H' b := fun {σ' H' s' acc c} I hn b hb => by
    have hb' : b ∈ Y.ex := by rw [hf]; exact hb
    refine ⟨hn b hb, (I.ok.exf b hb').1, I.ok.exfs b hb', .inl hb', fun x c e => (I.ok.exf b hb').2 x c e, fun p hp => ?_⟩
    rcases List.mem_append.mp hp with z | z
    · exact fun e => hpf p z (e ▸ hb)
    · rw [List.mem_singleton.mp z]
      exact fun e => hSf (by rw [show S = b from e]; exact hb)
  have dead : ∀ {n : Nat} {s₀ : Shared} {e : Value} {s' : Shared} {P : Prop}, Y.xe e s' → P := fun {n s₀ e s' P} h => by
    rw [hx] at h
    exact h.elim
  intro m
  induction m using Nat.strongRecOn with
  | ind m ih =>
    intro n i ys s₀ s H hn w hI st hnf
    obtain ⟨acc, c, r, I⟩ := hI
    show Seg _ B _ _ _ s₀ _ ((compTurn (.GeneratorExp elt [⟨tg, iter, ifs, 0⟩] scope pos) 0 (.ref it) .none Y.env).onRaise (leaving Y.env)) [] s
    rw [compTurn_gen, Sem.onRaise_eq_wrap]
    refine seg_bind_wrap (wpAny_standAt ?_)
    rcases tu i m ys H w with ⟨stop, q⟩ | ⟨go, Nx, hNx, step⟩
    · have td := T.done Y rfl rfl rfl hc i [(S, lstObj acc c)] s _ H (fun _ _ => False) I (stat I hnf) st stop
      refine seg_bind_wrap ?_
      rw [hover]
      refine wpAny_mono td (fun z s6 hz => ?_) fun _ _ e => e.elim
      obtain ⟨rfl, I6⟩ := hz
      exact seg_end (.ok .next) ⟨rfl, ys, [], _, H, hn, ⟨acc, c, r, I6⟩, q⟩
    · have ti := T.item Y rfl rfl rfl hc i [(S, lstObj acc c)] s _ H (fun _ _ => False) I (stat I hnf) st go
      refine seg_bind_wrap ?_
      rw [hover]
      refine wpAny_mono ti (fun z s6 hz => ?_) fun _ _ e => e.elim
      obtain ⟨u, rfl, h6⟩ := hz
      refine seg_bind_wrap ?_
      rw [hover]
      refine wpAny_mono h6 (fun _ s7 h7 => ?_) fun _ _ e => e.elim
      obtain ⟨x, H7, I7, r7, y7, st7, n7⟩ := h7
      have I7' := I7.pinned (stat I7 n7) (T.obj _ _ st7)
      refine seg_bind_wrap ?_
      rw [hover]
      refine wpAny_mono (pg.run _ s7 _ H7 x u _ I7' r7 (step x H7 y7)) (fun _ s8 h8 => ?_) fun _ _ e => dead (n := n) (s₀ := s₀) e
      obtain ⟨σ8, H8, I8, hw8, q8⟩ := h8
      refine seg_bind_wrap ?_
      rw [hover]
      refine wpAny_mono (pt.run _ s8 σ8 H8 _ I8 q8) (fun b s9 h9 => ?_) fun _ _ e => dead (n := n) (s₀ := s₀) e
      obtain ⟨H9, I9, q9⟩ := h9
      have hl8 : (wipe σ vs).length = σ8.length := by rw [← hw8, wipe_length]
      -- behind the turn
      have turn : ∀ {n' : Nat} {s₀' s' : Shared} {H' : Hp} {zs : List V}, n' + zs.length = sizeLine → GI Y S (pinsAt fp s7.heap) zs σ8 H' s' → Nx zs H' → Seg (model Y.prog Y.w) B (GE Y S cont) (GY Y S) n' s₀' (.compLoop (.GeneratorExp elt [⟨tg, iter, ifs, 0⟩] scope pos) 0 (.ref it) .none Y.env)
          ((model Y.prog Y.w).den (.compLoop (.GeneratorExp elt [⟨tg, iter, ifs, 0⟩] scope pos) 0 (.ref it) .none Y.env)) [] s' := fun {n' s₀' s' H' zs} hn' hG nx => by
        obtain ⟨m', hm, w'⟩ := hNx zs H' nx
        obtain ⟨acc', c', r', I'⟩ := hG
        have pin' : ∀ b ∈ fp, ∀ o, s7.heap.get? b = some o → s'.heap.get? b = some o ∧ H' b = none := fun b hb o e =>
          let z := I'.pin (b, o) (List.mem_append_right _ (List.mem_cons_of_mem _ (mem_pinsAt hb e)))
          ⟨z.1, z.2.1⟩
        have I2 : Inv Y [(S, lstObj acc' c')] σ8 H' s' := I'.pins_of fun p hp => I'.pin p (List.mem_append_right _ (by rw [List.mem_singleton.mp hp]; exact List.mem_cons_self))
        refine ih m' hm n' (i + 1) zs s₀' s' H' hn' w' ⟨acc', c', r', I2.weak hl8 fun j v e => ?_⟩ (T.keep _ _ _ st7 fun b hb o e => (pin' b hb o e).1) fun b hb => ?_
        · rw [← hw8] at e
          exact (wipe_some e).1
        · obtain ⟨o, e, _⟩ := T.obj _ _ st7 b hb
          exact (pin' b hb o e).2
      cases b with
      | false =>
        simp only [Bool.false_eq_true, if_false] at q9 ⊢
        exact seg_again rfl (turn hn ⟨acc, c, r, I9⟩ q9)
      | true =>
        simp only [if_true] at q9 ⊢
        have hy : ∀ v, yieldOut Y.env v = yieldValue v := fun v => by simp only [yieldOut, hco, Bool.false_eq_true, if_false]
        simp only [hy]
        rw [Sem.bind_eq_wrap', Sem.bind_eq_wrap', Sem.wrap_wrap, Sem.wrap_wrap]
        refine seg_wrap ?_
        rw [hover]
        refine wpAny_mono (pe.run _ s9 σ8 H9 _ I9 q9) (fun v s10 h10 => ?_) fun _ _ e => dead (n := n) (s₀ := s₀) e
        obtain ⟨yv, H10, I10, r10, hlt, nx⟩ := h10
        obtain ⟨n', rfl⟩ : ∃ n', n = n' + 1 := ⟨n - 1, by omega⟩
        have hip : ∀ p ∈ pinsAt fp s7.heap, p.1 ≠ S := fun p hp e => hSf (e ▸ (of_pinsAt hp).1)
        refine seg_at (seg_yield rfl rfl rfl ⟨ys, yv, pinsAt fp s7.heap, σ8, H10, hn, r10, ⟨acc, c, r, I10⟩, fun s'' hz => ?_⟩)
        exact seg_again rfl (turn (by rw [List.length_append, List.length_singleton]; omega) (GI.woken hpn hip hA ⟨acc, c, r, I10⟩ r10 hz) nx)
end
end GenX

set_option Elab.async false
set_option linter.all false
set_option maxRecDepth 100000
set_option maxHeartbeats 2000000
namespace GenX
open PySem PySem.Spec PyProof.Rows L2 GenW
section
variable {Y : Cx} {S : Addr} {B : Around} {elt tg iter : Expr} {ifs : List Expr} {scope : Scope} {pos : Pos} {fp : List Addr} {it : Addr} {tn : Nat → Heap → Prop} {J : It} {g : TG} {tt : TT} {te : TE} {vs : List Nat} {σ : L2.St} {cont : List V → Hp → Prop} {W : Nat → Nat → List V → Hp → Prop}
theorem gex_begin {R : GenEnd} {Pr : Protocol} {n : Nat} {s₀ s : Shared} (T : Turn Y.prog Y.w Y.K tg J fp it tn) (st : tn 0 s.heap)
    (h : Seg (model Y.prog Y.w) B R Pr n s₀ (.compLoop (.GeneratorExp elt [⟨tg, iter, ifs, 0⟩] scope pos) 0 (.ref it) .none Y.env) ((model Y.prog Y.w).den (.compLoop (.GeneratorExp elt [⟨tg, iter, ifs, 0⟩] scope pos) 0 (.ref it) .none Y.env)) [] s) :
    Seg (model Y.prog Y.w) B R Pr n s₀ (.compStart (.GeneratorExp elt [⟨tg, iter, ifs, 0⟩] scope pos) 0 (.ref it) .none Y.env) ((model Y.prog Y.w).den (.compStart (.GeneratorExp elt [⟨tg, iter, ifs, 0⟩] scope pos) 0 (.ref it) .none Y.env)) [] s := by
  show Seg _ B _ _ _ s₀ _ ((compStart (.GeneratorExp elt [⟨tg, iter, ifs, 0⟩] scope pos) 0 (.ref it) .none Y.env).onRaise (leaving Y.env)) [] s
  unfold compStart
  rw [Sem.onRaise_eq_wrap]
  show Seg _ B _ _ _ s₀ _ ((ask >>= _).wrap _ _ _ _) [] s
  refine seg_bind_wrap (wpAny_askSetting ?_)
  split
  · exact seg_again rfl h
  · refine seg_bind_wrap (wpAny_rule ?_)
    show Seg _ B _ _ _ s₀ _ ((standAt iter.pos >>= _).wrap _ _ _ _) [] s
    exact seg_bind_wrap (wpAny_standAt (seg_bind_wrap (T.self _ 0 s _ _ st (seg_again rfl h))))
end
/-- the generator's code stands where a def's body would -/
theorem over_gex {A : Around} {c : Code} {elt : Expr} {gens : List Comprehension} {scope : Scope} {pos : Pos} {it : Value} {env : Env} (h : c = .compLoop (.GeneratorExp elt gens scope pos) 0 it .none env ∨ c = .compStart (.GeneratorExp elt gens scope pos) 0 it .none env) : A.over c [] = A.deeper env := by
  obtain ⟨hd, d, fr, gs, u⟩ := A
  rcases h with rfl | rfl <;> simp [Around.over, Around.deeper, marksOver, frameCount, unitsOf, envsOf, guardsOf, pushEnvs, pushGuards, Code.envs, Code.env?, Code.isFrame, Code.guards, Code.isGuard, Code.weight, Code.frames, Code.isCreation, Code.isCaller, Code.cUnits]
/-- what is pinned in the context, if it holds -/
theorem gex_pin {X : Cx} {B : Around} {s s1 : Shared} {H H' : Hp} {env : Env} {fp : List Addr} {pn pins : List (Addr × Obj)} {σ : L2.St} (I : Inv (gexCx X B s H env fp []) [] σ H' s1)
    (h : ∀ p ∈ pn ++ pins, s1.heap.get? p.1 = some p.2 ∧ H' p.1 = none ∧ p.1 ≠ env.locals ∧ p.1 ∉ frs X.stack ∧ ∀ v, p.2.data ≠ .cell v) : Inv (gexCx X B s H env fp pn) pins σ H' s1 :=
  ⟨⟨I.ok.mod, I.ok.kind, I.ok.glob, I.ok.blt, I.ok.above, I.ok.inj, I.ok.has, I.ok.cab, I.ok.hd, I.ok.frames, I.ok.stk, I.ok.exf, I.ok.bs, I.ok.bsz, I.ok.noex, I.ok.exfs, I.ok.funs, I.ok.frf⟩, I.os, I.bare, I.base, I.loc, I.cell, I.free, I.freeC, h, I.hok, I.len⟩
end GenX

set_option Elab.async false
set_option linter.all false
set_option maxRecDepth 100000
set_option maxHeartbeats 2000000
namespace GenX
open PySem PySem.Spec PyProof.Rows L2 GenW
/-- the frame's environment -/
abbrev gexE (X : Cx) (scope : Scope) (C : Addr) (code : Value) : Env := genEnv scope (cloFrom X.env.cells scope.names []) C code builtinsNs X.env
theorem clo_back {X : Cx} {scope : Scope} {own : List (Str × Nat)} (okX : X.Ok) (ok : BlkOk X.N X.env.scope scope own) {y : Str} {c : Addr} (e : (cloFrom X.env.cells scope.names []).lookup y = some c) : X.env.cells.lookup y = some c := by
  rcases cloFrom_mem (PySem.mem_of_lookup e) with z | ⟨z1, z2⟩
  · cases z
  · obtain ⟨d, hd'⟩ := (ok.free _ z1 rfl).elim (fun k => okX.has _ (.inl k)) fun k => okX.has _ (.inr k)
    have hd' : X.env.cells.lookup y = some d := hd'
    rw [hd'] at z2
    rw [z2]
    exact hd'
section
variable {X : Cx} {pins : List (Addr × Obj)} {σ : L2.St} {H : Hp} {s : Shared} {elt tg iter : Expr} {ifs : List Expr} {scope : Scope} {pos : Pos} {fp : List Addr} {it : Addr} {tn : Nat → Heap → Prop} {J : It} {g : TG} {tt : TT} {te : TE} {own : List (Str × Nat)} {cont : List V → Hp → Prop} {k : Nat} {EX : XK}
theorem gex_made {code : Value} {h' : Heap} {nm qn : Value} {tk : Nat} (I : Inv X pins σ H s) (ok : BlkOk X.N X.env.scope scope own) (hN : X.N.Nodup) (hcell : ∀ y ∈ scope.names, y.2 ≠ .cell) (hco : scope.isCoroutine = false)
    (T : Turn X.prog X.w X.K tg J fp it tn) (st : tn 0 s.heap) (hfp : ∀ b ∈ fp, FpOk X pins H b)
    (hns : h'.Ns s.heap.objs.size fun y => if y = ".0" then some (.ref it) else none) (hsz : h'.objs.size = s.heap.objs.size + 1) (kp : ∀ b o, s.heap.get? b = some o → h'.get? b = some o)
    (pg : ∀ (B : Around) (pn : List (Addr × Obj)), Room k (B.deeper (gexE X scope s.heap.objs.size code)) → PG (gexCx X B s H (gexE X scope s.heap.objs.size code) fp pn) tg g)
    (pt : ∀ (B : Around) (pn : List (Addr × Obj)), Room k (B.deeper (gexE X scope s.heap.objs.size code)) → PTs (gexCx X B s H (gexE X scope s.heap.objs.size code) fp pn) ifs tt)
    (pe : ∀ (B : Around) (pn : List (Addr × Obj)), Room k (B.deeper (gexE X scope s.heap.objs.size code)) → PE (gexCx X B s H (gexE X scope s.heap.objs.size code) fp pn) elt te)
    (q : ∃ W : Nat → Nat → List V → Hp → Prop, (∃ m, W 0 m [] H) ∧ Turns J g tt te (own.map (·.2)) σ cont W) :
    GMade X.prog X.w (k + 1) X.stack H s fp cont EX (.ref h'.objs.size)
      { s with gens := s.gens.push (.fresh (.compStart (.GeneratorExp elt [⟨tg, iter, ifs, 0⟩] scope pos) 0 (.ref it) .none (gexE X scope s.heap.objs.size code))), toks := tk, heap := h'.push { cls := .type "generator", data := .fields #[.int s.gens.size 0, nm, qn] } } := by
  obtain ⟨W, ⟨m0, w0⟩, tu⟩ := q
  have here : (h'.push { cls := .type "generator", data := .fields #[.int s.gens.size 0, nm, qn] }).get? h'.objs.size = some { cls := .type "generator", data := .fields #[.int s.gens.size 0, nm, qn] } := Heap.get?_push_size _ rfl
  have kg : ∀ b o, s.heap.get? b = some o → (h'.push { cls := .type "generator", data := .fields #[.int s.gens.size 0, nm, qn] }).get? b = some o := fun b o e => Heap.get?_push_of_some _ (kp b o e)
  have isg : ∀ h : Heap, h.get? h'.objs.size = some { cls := .type "generator", data := .fields #[.int s.gens.size 0, nm, qn] } → h.IsGen h'.objs.size s.gens.size := fun h e => ⟨_, nm, qn, e, rfl, rfl, rfl⟩
  refine ⟨h'.objs.size, s.gens.size, _, rfl, by rw [hsz]; exact Nat.le_succ _, by show _ < (h'.push _).objs.size; rw [Heap.size_push]; exact Nat.lt_succ_self _, isg _ here, Array.getElem?_push_size .., rfl, I.bare.push rfl, I.nolimit.keeps kg, kg, ?_⟩
  intro B S s2 hr hfr hS hk hSo hos hbare
  have hrk : Room k (B.deeper (gexE X scope s.heap.objs.size code)) := hr.deeper _
  have lt : ∀ b ∈ fp, b < s.heap.objs.size := fun b hb => by
    obtain ⟨o, e, _⟩ := T.obj _ _ st b hb
    exact Heap.lt_size e
  have k2 : ∀ b o, s.heap.get? b = some o → s2.heap.get? b = some o := fun b o e => hk b o (kg b o e)
  have hns2 : s2.heap.Ns s.heap.objs.size fun y => if y = ".0" then some (.ref it) else none := hns.keeps fun b o e => hk b o (Heap.get?_push_of_some _ e)
  have I1 := gex_start (B := B) (own := own) (code := code) (it := .ref it) I ok hN hcell (fun b hb => ⟨hfp b hb, lt b hb⟩) hr.hd hfr hos hbare k2 hns2
  have hSz : h'.objs.size < S := by
    have : (h'.push { cls := .type "generator", data := .fields #[.int s.gens.size 0, nm, qn] }).objs.size ≤ S := hS
    rw [Heap.size_push] at this
    exact this
  obtain ⟨cS, eS⟩ := hSo
  have eg := hk _ _ here
  have young : ∀ b, s.heap.objs.size < b → H b = none ∧ b ≠ s.heap.objs.size ∧ b ∉ frs X.stack ∧ s.heap.objs.size ≤ b ∧ (∀ y c, (cloFrom X.env.cells scope.names []).lookup y = some c → c ≠ b) ∧ b ∉ fp := fun b hb => by
    refine ⟨I.hok.fresh (Nat.le_of_lt hb), Nat.ne_of_gt hb, fun hm => ?_, Nat.le_of_lt hb, fun y c e z => ?_, fun hm => absurd (Nat.lt_trans hb (lt b hm)) (Nat.lt_irrefl _)⟩
    · rcases List.mem_cons.mp (I.stkSub b hm) with z | z
      · have := I.lt
        rw [← z] at this
        exact absurd (Nat.lt_trans hb this) (Nat.lt_irrefl _)
      · exact I.nofs (Nat.le_of_lt hb) z
    · obtain ⟨v, o, ho, _⟩ := I.cell y c (clo_back I.ok ok e)
      have := Heap.lt_size ho
      rw [z] at this
      exact absurd (Nat.lt_trans hb this) (Nat.lt_irrefl _)
  have hgs : s.heap.objs.size < h'.objs.size := by rw [hsz]; exact Nat.lt_succ_self _
  obtain ⟨g1, g2, g3, g4, g5, g6⟩ := young h'.objs.size hgs
  obtain ⟨u1, u2, u3, u4, u5, u6⟩ := young S (Nat.lt_trans hgs hSz)
  have hI : GI (gexCx X B s H (gexE X scope s.heap.objs.size code) fp [(h'.objs.size, { cls := .type "generator", data := .fields #[.int s.gens.size 0, nm, qn] })]) S [] [] (wipe σ (own.map (·.2))) H s2 := by
    refine ⟨#[], cS, .nil, gex_pin I1 fun p hp => ?_⟩
    rcases List.mem_append.mp hp with z | z <;> rw [List.mem_singleton.mp z]
    · exact ⟨eg, g1, g2, g3, (fun v e => nomatch e)⟩
    · exact ⟨eS, u1, u2, u3, (fun v e => nomatch e)⟩
  have hne : ∀ p ∈ (gexCx X B s H (gexE X scope s.heap.objs.size code) fp [(h'.objs.size, { cls := .type "generator", data := .fields #[.int s.gens.size 0, nm, qn] })]).pn, p.1 ≠ S := fun p hp => by
    rw [List.mem_singleton.mp hp]
    exact Nat.ne_of_lt hSz
  have hpf : ∀ p ∈ (gexCx X B s H (gexE X scope s.heap.objs.size code) fp [(h'.objs.size, { cls := .type "generator", data := .fields #[.int s.gens.size 0, nm, qn] })]).pn, p.1 ∉ fp := fun p hp => by
    rw [List.mem_singleton.mp hp]
    exact g6
  have hAp : Apart (gexCx X B s H (gexE X scope s.heap.objs.size code) fp [(h'.objs.size, { cls := .type "generator", data := .fields #[.int s.gens.size 0, nm, qn] })]) S := ⟨u4, u2, u5⟩
  have own2 : ∀ {ip : List (Addr × Obj)} {ys : List V} {s' : Shared} {σ' : L2.St} {H' : Hp}, GI (gexCx X B s H (gexE X scope s.heap.objs.size code) fp [(h'.objs.size, { cls := .type "generator", data := .fields #[.int s.gens.size 0, nm, qn] })]) S ip ys σ' H' s' → s'.heap.IsGen h'.objs.size s.gens.size := fun {ip ys s' σ' H'} h => by
    obtain ⟨acc, cc, _, K⟩ := h
    exact isg _ (K.pin (h'.objs.size, _) (List.mem_append_left _ (List.mem_singleton.mpr rfl))).1
  have st2 : tn 0 s2.heap := T.keep _ _ _ st fun b _ o e => k2 b o e
  refine seg_imp (fun n s₀ r s1' hR => ?_) (fun n s₀ v s1' kap kap' hkk hY => ?_) sizeLine (gex_begin (Y := gexCx X B s H (gexE X scope s.heap.objs.size code) fp [(h'.objs.size, { cls := .type "generator", data := .fields #[.int s.gens.size 0, nm, qn] })]) T st2 (gex_loop rfl rfl rfl hco (fun c hc => over_gex (.inl hc)) hAp hne hpf u6 T (pg B _ hrk) (pt B _ hrk) (pe B _ hrk) tu m0 sizeLine 0 [] s2 s2 H (Nat.add_zero _) w0 hI st2 fun b hb => (hfp b hb).1))
  · obtain ⟨rfl, ys, ip, σ', H', hn, hG, hQ⟩ := hR
    obtain ⟨a1, _, _, acc, cc, ra, ea⟩ := hG.at
    obtain ⟨_, _, _, K⟩ := hG
    exact .inl ⟨.inr rfl, H', ys, acc, cc, K.os, K.bare, K.base, K.hok, a1, ea, ra, by omega, hQ⟩
  · obtain ⟨ys, xx, ip, σ', H', hn, rx, hG, hw⟩ := hY
    obtain ⟨_, _, _, acc, cc, ra, ea⟩ := hG.at
    have hg := own2 hG
    obtain ⟨_, _, _, K⟩ := hG
    have hl : acc.size = ys.length := by
      have e1 := ra.length
      have e2 : acc.toList.length = acc.size := by simp
      omega
    exact ⟨K.os, K.bare, K.nolimit, hg, ⟨acc, cc, ea, by rw [hl]; exact hn⟩, fun s' z => hkk _ _ (hw s' z)⟩
end
end GenX

set_option Elab.async false
set_option linter.all false
set_option maxRecDepth 100000
set_option maxHeartbeats 2000000
namespace GenX
open PySem PySem.Spec PyProof.Rows L2 GenW
/-- a generator expression in a def whose code table is at P: the table may have grown; then its turns -/
def tGex (P : Addr) (wi : TI) (g : TG) (tt : TT) (te : TE) (vs : List Nat) : TGen := fun σ H cont => wi σ H fun J H1 => ∃ ps : Array Value, H1 P = some (.tbl ps) ∧ TriplesOk ps.toList ∧
  ∀ qs : Array Value, TriplesOk qs.toList → ∃ W : Nat → Nat → List V → Hp → Prop, (∃ m, W 0 m [] (upd H1 P (.tbl qs))) ∧ Turns J g tt te vs σ cont W
section
variable {X : Cx} {elt tg iter : Expr} {ifs : List Expr} {scope : Scope} {pos : Pos} {g : TG} {tt : TT} {te : TE} {own : List (Str × Nat)} {wi : TI} {k : Nat} {EX : XK} {c P : Addr}
theorem pgen_gex (hd : X.A.handled = none) (hdep : X.A.depth < recursionLimit) (TB : GxR.TabB X.base X.mg c P) (hcode : X.env.code = .ref c) (ok : BlkOk X.N X.env.scope scope own) (hN : X.N.Nodup) (hcell : ∀ y ∈ scope.names, y.2 ≠ .cell) (hco : scope.isCoroutine = false) (dot : scope.names.lookup (".0" : Str) = some NameKind.local)
    (hi : PI X tg iter wi) (hs : ∀ v, genFold iter X.env v = pure v)
    (pg : ∀ (B : Around) (s : Shared) (H : Hp) (C : Addr) (code : Value) (fp : List Addr) (pn : List (Addr × Obj)), Room k (B.deeper (gexE X scope C code)) → PG (gexCx X B s H (gexE X scope C code) fp pn) tg g)
    (pt : ∀ (B : Around) (s : Shared) (H : Hp) (C : Addr) (code : Value) (fp : List Addr) (pn : List (Addr × Obj)), Room k (B.deeper (gexE X scope C code)) → PTs (gexCx X B s H (gexE X scope C code) fp pn) ifs tt)
    (pe : ∀ (B : Around) (s : Shared) (H : Hp) (C : Addr) (code : Value) (fp : List Addr) (pn : List (Addr × Obj)), Room k (B.deeper (gexE X scope C code)) → PE (gexCx X B s H (gexE X scope C code) fp pn) elt te) :
    PGen X (k + 1) (.GeneratorExp elt [⟨tg, iter, ifs, 0⟩] scope pos) (tGex P wi g tt te (own.map (·.2))) EX := by
  refine ⟨fun pins s σ H cont I h => ?_⟩
  have hfree : ∀ y ∈ scope.names, y.2 = .free → ∃ c, X.env.cells.lookup y.1 = some c := fun y hy e => (ok.free y hy e).elim (fun k => I.ok.has _ (.inl k)) fun k => I.ok.has _ (.inr k)
  refine wpAny_GeneratorExp_make hco (closure_ok hfree) hcell dot ok.kind hdep (thn (hi.run pins s σ H _ I h) fun xv s1 hx => thn hx fun itv s2 h2 => ⟨?_, ?_⟩) hs
  · obtain ⟨it, fp, tn, J, H2, e, I2, _⟩ := h2
    exact I2.nolimit
  obtain ⟨it, fp, tn, J, H2, rfl, I2, T, st2, f2, ps, hP, ht, q⟩ := h2
  have hPs : s2.heap.get? P = some { cls := .none, data := .fields ps } := I2.hok P _ hP
  have cd : PySem.W.CodeHd s2.heap c P := TB.code.keeps fun b u e => I2.bk b u e
  have cont2 : ∀ (code : Value) (h3 : Heap) (tk : Nat) (more : Array Value), Heap.ExtBut P s2.heap h3 → s2.heap.objs.size ≤ h3.objs.size → h3.get? P = some { cls := .none, data := .fields (ps ++ more) } → TriplesOk (ps ++ more).toList →
      wpAny (model X.prog X.w) X.A (builtinsFor X.env.globals X.env.builtins) (fun bi s₄ => ∀ h' : Heap, h'.Ns s₄.heap.objs.size (fun y => if y = ".0" then some (.ref it) else none) → Heap.SameBut s₄.heap.objs.size (s₄.heap.push { cls := .type "frame", data := .dict #[] }) h' →
        (fun u s' => ∃ H1 sc ex, Inv X pins σ H1 sc ∧ ExOk X pins ex ∧ GMade X.prog X.w (k + 1) X.stack H1 sc ex cont EX u s') (.ref h'.objs.size)
          { s₄ with gens := s₄.gens.push (.fresh (.compStart (.GeneratorExp elt [⟨tg, iter, ifs, 0⟩] scope pos) 0 (.ref it) .none (genEnv scope (cloFrom X.env.cells scope.names []) s₄.heap.objs.size code bi X.env))), toks := s₄.toks + 1 + 1 + 1,
                    heap := h'.push { cls := .type "generator", data := .fields #[.int s₄.gens.size 0, .str "<genexpr>" (s₄.toks + 1), .str (X.env.qual ++ "<genexpr>") (s₄.toks + 1 + 1)] } }) X.xe { s2 with heap := h3, toks := tk } := by
    intro code h3 tk more hx hsz hP3 ht3
    obtain ⟨bm, ob, e1, e2, e3, e4, e5, e6, e7, e8⟩ := TB.bm
    have I3 : Inv X pins σ (upd H2 P (.tbl (ps ++ more))) { s2 with heap := h3, toks := tk } := GxR.inv_tab (more := more) (h' := h3) (g' := s2.gens) (d' := s2.drawn) (t' := tk) I2 hP (fun b u hb e => hx b u hb e) hP3 I2.bare
    have apart : ∀ b ∈ fp, b ≠ P := fun b hb z => by
      have := (f2 b hb).1
      rw [z, hP] at this
      cases this
    have f3 : ∀ b ∈ fp, FpOk X pins (upd H2 P (.tbl (ps ++ more))) b := fun b hb => ⟨by rw [upd_ne (apart b hb)]; exact (f2 b hb).1, (f2 b hb).2⟩
    have st3 : tn 0 h3 := T.keep _ _ _ st2 fun b hb o e => hx b o (apart b hb) e
    refine wpAny_builtinsFor (m := X.mg) (by rw [I2.ok.glob]; exact (I2.mod.glob.keeps I2.bk).extBut hx TB.gP) e1 e2 (hx _ _ e4 (I2.bk _ _ e5)) e6 e7 e8 ?_
    intro h' hn' hs'
    refine ⟨_, _, fp, I3, fun b hb => ?_, gex_made (own := own) (code := code) I3 ok hN hcell hco T st3 f3 hn' (by rw [hs'.1, Heap.size_push]) (fun b o e => hs'.extBut b o (Nat.ne_of_lt (Heap.lt_size e)) (Heap.get?_push_of_some _ e)) (fun B pn => pg B _ _ _ _ _ pn) (fun B pn => pt B _ _ _ _ _ pn) (fun B pn => pe B _ _ _ _ _ pn) (q _ ht3)⟩
    obtain ⟨_, a1, _, a3, a4, a5⟩ := f2 b hb
    exact ⟨a3, a1, a4, a5⟩
  cases hf : codeAmong pos ps.toList with
  | none =>
    refine PySem.wpAny_genexprCodeX hcode (cd.code hPs ht) (cd.tab hPs) hf fun c' h' tk hx hge hlt hco' _ htab' _ => ?_
    obtain ⟨o1, vs, f1, tf, fl, tg', inF, tx, tt', op, _, _, _, _, _, _, _, _, _, htr, _⟩ := hco'
    exact cont2 _ h' tk _ hx (Nat.le_trans hge (Nat.le_of_lt hlt)) htab'.2 htr
  | some cv =>
    refine PySem.wpAny_genexprCode_hit hcode (cd.code hPs ht) hf ?_
    exact cont2 cv s2.heap s2.toks #[] (Heap.ExtBut.refl _ _) (Nat.le_refl _) (by simpa using hPs) (by simpa using ht)
end
end GenX

set_option Elab.async false
set_option linter.all false
set_option maxRecDepth 100000
set_option maxHeartbeats 2000000
namespace GenX
open PySem PySem.Spec PyProof.Rows L2 GenW
section
variable {P : Program} {w : World} {outer : List Env} {H : Hp} {sc s : Shared} {ex : List Addr} {Q : List V → Hp → Prop} {EX : XK} {A : Around} {k : Nat} {E : Value → Shared → Prop}
/-- all that a generator hands out, as a list that stands in the heap -/
theorem collect_new {u : Value} {Qc : List Value → Shared → Prop} (hr : Room (k + 2) A) (hfr : A.frames = some outer) (gm : GMade P w k outer H sc ex Q EX u s)
    (lost : ∀ e s' g, CX P w outer H sc EX e s' → NotStop (model P w) e s'.heap ∧ E e (s'.setGen g .finished))
    (done : ∀ z s' acc c Hn zs, s.heap.objs.size ≤ z → s'.heap.get? z = some (lstObj acc c) → Vals zs acc.toList → zs.length ≤ sizeLine → s'.os = sc.os → AllBare s'.gens → Un (frs outer) ex H Hn sc.heap s'.heap → HOk P w Hn s'.heap → Hn z = none → Q zs Hn → Qc acc.toList s') :
    wpAny (model P w) A (collect u) Qc E s := by
  obtain ⟨a, g, c, rfl, ha1, ha2, hg, hgs, hos, hb, hl, hkp, wake⟩ := gm
  have za : s.heap.objs.size ≠ a := Nat.ne_of_gt ha2
  have zc : s.heap.objs.size ≠ cStatics := Nat.ne_of_gt (let ⟨_, hn, _⟩ := hl; hn.lt)
  have gen : ∀ {h : Heap}, (∀ b o, s.heap.get? b = some o → h.get? b = some o) → h.IsGen a g := fun {h} k => hg.keeps k
  have p1 : ∀ b o, s.heap.get? b = some o → (s.heap.push { cls := .type "list", data := .seq ([] : List Value).toArray }).get? b = some o := fun b o e => Heap.get?_push_of_some _ e
  unfold collect
  refine wpAny_bind (wpAny_runValue (codeAny_builtin F.entry_proto_collect ?_))
  rw [Around.under_plainId F.plain_proto_collect _]
  show wpAny _ A.in1 (newList [] >>= fun z => again (.builtin "list.__iadd__" ⟨[z, .ref a], []⟩)) _ _ s
  refine wpAny_bind (wpAny_newObj_type ?_)
  refine wpAny_pure ⟨plainId_quiet F.plain_list_iadd _, codeAny_builtin F.entry_list_iadd ?_⟩
  rw [Around.under_plainId F.plain_list_iadd _]
  show wpAny _ A.in1 (Builtin.List.listExtendWith (.ref s.heap.objs.size) (.ref a) (.ref s.heap.objs.size)) _ _ _
  have q1 : (s.heap.push { cls := .type "list", data := .seq ([] : List Value).toArray }).get? s.heap.objs.size = some { cls := .type "list", data := .seq ([] : List Value).toArray } := Heap.get?_push_size _ rfl
  have far : ∀ (h : Heap) (f : Obj → Obj), (∀ b o, s.heap.get? b = some o → h.get? b = some o) → ∀ b o, s.heap.get? b = some o → (h.update s.heap.objs.size f).get? b = some o := fun h f q b o e =>
    (Heap.get?_update_other _ _ (Ne.symm (Nat.ne_of_lt (Heap.lt_size e)))).trans (q b o e)
  have d1 : Builtin.List.listSameRef (.ref s.heap.objs.size) (.ref a) = false := by simp [Builtin.List.listSameRef, za]
  have d2 : (Value.type "generator" == Value.type "list") = false ∧ (Value.type "generator" == Value.type "tuple") = false := ⟨by decide, by decide⟩
  unfold Builtin.List.listExtendWith
  refine wpAny_bind (wpAny_typeOf (Heap.IsGen.typeIs (s := { s with heap := _ }) (gen p1)) ?_)
  simp only [d1, d2.1, d2.2, Bool.or_false, Bool.false_eq_true, if_false]
  refine wpAny_bind (wpAny_pyIter_gen (s := { s with heap := _ }) (gen p1) ?_)
  refine (wpAny_bind (wpAny_holding ?_))
  unfold Builtin.List.listLengthHint
  refine wpAny_bind (wpAny_specialOf (Heap.IsGen.typeIs (s := { s with heap := _ }) (gen p1)) F.gen_no_len ?_)
  show wpAny _ A.in1 (specialOf (Value.ref a) (Str.ofString "__length_hint__") >>= _) _ _ _
  refine wpAny_bind (wpAny_specialOf (Heap.IsGen.typeIs (s := { s with heap := _ }) (gen p1)) F.gen_no_hint ?_)
  refine wpAny_pure ?_
  show wpAny _ A.in1 (rule "list.extend.makes-room" >>= fun _ => Builtin.List.listTouch (.ref s.heap.objs.size) >>= fun _ => again (.builtin "list.extend.loop" ⟨[.ref s.heap.objs.size, .ref a, .ref s.heap.objs.size], []⟩)) _ _ _
  refine (wpAny_bind (wpAny_rule (wpAny_bind ?_)))
  show wpAny _ A.in1 (updateSeq s.heap.objs.size (·.push .none) >>= fun _ => updateSeq s.heap.objs.size (·.pop)) _ _ _
  refine (wpAny_bind (wpAny_updateSeq q1 rfl ?_))
  have q2 := Heap.get?_update_self (Obj.mapSeq (·.push Value.none)) q1 rfl
  refine (wpAny_updateSeq (hz := by seq_fits) q2 rfl ?_)
  have q3 := Heap.get?_update_self (Obj.mapSeq (·.pop)) q2 rfl
  have p3 := far _ (Obj.mapSeq (·.pop)) (far _ (Obj.mapSeq (·.push Value.none)) p1)
  refine wpAny_pure ⟨plainId_quiet F.plain_extend_loop _, ?_⟩
  refine drain (P := P) (w := w) (outer := outer) (H := H) (sc := sc) (ex := ex) (Q := Q) (EX := EX) (A := A) (g := g) hr.hd (by have := hr.dp; omega) za zc
    (fun s' acc cc Hn zs r1 r2 r3 r4 r5 r6 r7 r8 r9 => ?_) (fun e s' he => lost e s' g he) sizeLine _ (gen p3) (hl.keeps p3) ⟨_, hgs, rfl, wake _ _ _ ⟨hr.hd, ?_, ?_⟩ hfr (Nat.le_refl _) p3 ⟨_, q3⟩ hos (allBare_setGen (s := { s with heap := _ }) hb rfl)⟩
  · refine wpAny_bind (wpAny_load r1 (wpAny_pure ?_))
    exact done _ s' acc cc Hn zs (Nat.le_refl _) r1 r2 r3 r4 r5 r6 r7 r8 r9
  · have := hr.dp
    show A.depth + 3 * k + 5 < _
    omega
  · have := hr.un
    show A.units + 1 + 1 + 16 * k + 200 < _
    omega
/-- tuple(g) -/
theorem call_tup_new {u : Value} {Qc : Value → Shared → Prop} (hr : Room (k + 3) A) (hfr : A.frames = some outer) (gm : GMade P w k outer H sc ex Q EX u s)
    (done : ∀ (s' : Shared) (acc : Array Value) (Hn : Hp) (zs : List V) (z : Addr) (c : Nat), s.heap.objs.size ≤ z → s'.heap.get? z = some (lstObj acc c) → Vals zs acc.toList → zs.length ≤ sizeLine → s'.os = sc.os → AllBare s'.gens → Un (frs outer) ex H Hn sc.heap s'.heap → HOk P w Hn s'.heap → Hn z = none → Q zs Hn →
      Qc (.ref s'.heap.objs.size) { s' with heap := s'.heap.push { cls := .type "tuple", data := .seq acc } })
    (lost : ∀ e s' g, CX P w outer H sc EX e s' → NotStop (model P w) e s'.heap ∧ E e (s'.setGen g .finished)) :
    wpAny (model P w) A (call (.type "tuple") [u]) Qc E s := by
  obtain ⟨a, g, c, rfl, _, _, hg, _⟩ := id gm
  have hTI : s.TypeIs (.ref a) "generator" := Heap.IsGen.typeIs hg
  have code : codeAny (model P w) A.in1 (.call (.builtin "tuple.__new__") ⟨[.type "tuple", .ref a], []⟩) (wants (fun o s1 => s1.TypeIs o "tuple" ∧ Qc o s1) E) s := by
    refine codeAny_of_tree ?_
    show wpAny _ A.in1.in1 (do checkBuiltinCall "tuple.__new__" ⟨[.type "tuple", .ref a], []⟩; again (.builtin "tuple.__new__" ⟨[.type "tuple", .ref a], []⟩)) _ _ s
    refine wpAny_bind (wpAny_of_eq (F.newCall_tuple_1 _) (wpAny_pure ⟨plainId_quiet F.plain_tuple_new _, codeAny_builtin F.entry_tuple_new ?_⟩))
    rw [Around.under_plainId F.plain_tuple_new _]
    have w1 := sub_tuple_self
    have w2 := init_tuple_lookup
    have w3 := madeHere_tuple
    have hr2 : Room (k + 2) A.in1.in1 := ⟨hr.hd, by have := hr.dp; show A.depth + 3 * (k + 2) + 5 < _ ; omega, by have := hr.un; show A.units + 1 + 1 + 16 * (k + 2) + 200 < _; omega⟩
    wp_walk using wpAny_typeOf hTI, collect_new (E := fun e s' => wants (fun o s1 => s1.TypeIs o "tuple" ∧ Qc o s1) E (Except.error e) s') hr2 hfr gm (fun e s' g he => lost e s' g he)
    intro z s' acc cc Hn zs r0 r1 r2 r3 r4 r5 r6 r7 r8 r9
    show wpAny _ _ (Builtin.Tuple.tupleExact acc.toList.toArray >>= fun v => ret v) _ _ _
    have e : acc.toList.toArray = acc := by simp
    rw [e]
    unfold Builtin.Tuple.tupleExact
    have le : acc.size ≤ sizeLine := by
      have e1 := r2.length
      have e2 : acc.toList.length = acc.size := by simp
      omega
    refine wpAny_bind (wpAny_newObj_type (wpAny_pure ⟨⟨_, Heap.get?_push_size _ rfl, rfl⟩, done s' acc Hn zs z cc r0 r1 r2 r3 r4 r5 r6 r7 r8 r9⟩) le)
  refine callType_codes (Q₁ := fun o s1 => s1.TypeIs o "tuple" ∧ Qc o s1) F.called_tuple (F.typeCall_tuple_1 _) F.entry_object_init code fun o s1 h1 => ?_
  exact ⟨h1.1, F.args_object_init_2 o _, object_init_meets F.called_tuple.init.lookup F.called_tuple.made (by decide) P w A.in1 _ s1 ⟨h1.1, rfl, h1.2⟩⟩
end
end GenX

set_option Elab.async false
set_option linter.all false
set_option maxRecDepth 100000
set_option maxHeartbeats 2000000
namespace GenX
open PySem PySem.Spec PyProof.Rows L2 GenW
def tTupG (tg : TGen) : TE := fun σ H Q => tg σ H fun out H2 => ∀ p, H2 p = none → Q (.ref p) (upd H2 p (.tup out))
/-- tuple(g): nothing leaves it -/
theorem pe_tupG {X : Cx} {k : Nat} {e : Expr} {tg : TGen} {p pos : Pos} (h : PGen X k e tg fun _ _ _ => False) (hr : Room (k + 3) X.A) (hg : Gl X "tuple") (hmg : X.mg "tuple" = none)
    (he : starEach [e] X.env = (false, eval e X.env) :: starEach [] X.env := by rfl) : PE X (.Call (.Name "tuple" p) [e] [] pos) (tTupG tg) := by
  refine ⟨fun pins s σ H Q I hq => ?_⟩
  refine wpAny_Call_Name_kw (ld_blt I hg hmg boot_tuple (PyProof.Rows.callWith_type1 ?_ he rfl))
  rw [he]
  show wpAny _ _ (spliced ((false, eval e X.env) :: backTo pos (starEach [] X.env))) _ _ s
  refine Calls.spliced_cons (thn (h.run pins s σ H _ I hq) fun u s1 ⟨H1, sc, ex, I1, hex, gm⟩ => Calls.spliced_nil ?_)
  refine call_tup_new hr I1.ok.frames gm (fun s' acc Hn zs z c r0 r1 r2 r3 r4 r5 r6 r7 r8 r9 => ?_) fun x s' g hx => ?_
  · have I2 : Inv X pins σ Hn s' := I1.call' r4 r6 r7 r5 hex
    exact ⟨.ref s'.heap.objs.size, upd Hn s'.heap.objs.size (.tup zs), I2.laid (t' := s'.toks) (fun b o e => Heap.get?_push_of_some _ e) (Nat.le_refl _) (show ObjOk X.prog X.w _ _ _ (.tup zs) from ⟨r3, acc.toList, r2, by simpa using IsTup.new s'.heap acc⟩), rfl, r9 _ (I2.hok.fresh (Nat.le_refl _))⟩
  · obtain ⟨a, B, H', cls, d, _, _, _, _, _, _, _, no⟩ := hx
    exact no.elim
end GenX

set_option Elab.async false
set_option linter.all false
set_option maxRecDepth 100000
set_option maxHeartbeats 2000000
/-! readings: over a range, a list, a tuple; Pv by the turn, what is out, the heap -/
namespace GenX
open PySem PySem.Spec PyProof.Rows L2
section
variable {g : TG} {tt : TT} {te : TE} {vs : List Nat} {σ : L2.St} {H0 : Hp} {cont : List V → Hp → Prop} (Pv : Nat → List V → Hp → Prop)
/-- one turn with x, from (i, ys) -/
def One (g : TG) (tt : TT) (te : TE) (vs : List Nat) (σ : L2.St) (Pv : Nat → List V → Hp → Prop) (i : Nat) (ys : List V) (x : V) (H : Hp) : Prop :=
  g x (wipe σ vs) H fun σ2 H2 => wipe σ2 vs = wipe σ vs ∧ tt σ2 H2 fun b H3 => if b = true then te σ2 H3 fun y H4 => ys.length < sizeLine ∧ Pv (i + 1) (ys ++ [y]) H4 else Pv (i + 1) ys H3
theorem gx_range {lo : Int} {n : Nat} (h0 : Pv 0 [] H0) (hs : ∀ i ys H, i < n → Pv i ys H → One g tt te vs σ Pv i ys (.int (lo + i)) H) (hd : ∀ ys H, Pv n ys H → cont ys H) :
    ∃ W : Nat → Nat → List V → Hp → Prop, (∃ m, W 0 m [] H0) ∧ Turns (Itr lo n) g tt te vs σ cont W := by
  refine ⟨fun i m ys H => m = n - i ∧ i ≤ n ∧ Pv i ys H, ⟨n, by simp, Nat.zero_le _, h0⟩, ?_⟩
  rintro i m ys H ⟨rfl, hi, p⟩
  by_cases h : i < n
  · refine .inr ⟨h, Pv (i + 1), fun zs H' p' => ⟨n - (i + 1), by omega, rfl, h, p'⟩, fun x H' y => ?_⟩
    obtain ⟨e, y⟩ := y
    subst e y
    exact hs i ys _ h p
  · have e : i = n := by omega
    subst e
    exact .inl ⟨Nat.le_refl _, hd ys H p⟩
theorem gx_list {K : PySem.W.Frag} {a : Addr} {xs : List V} (h0 : Pv 0 [] H0) (hl : ∀ i ys H, i ≤ xs.length → Pv i ys H → SqL K H a xs) (hs : ∀ i x ys H, xs[i]? = some x → Pv i ys H → One g tt te vs σ Pv i ys x H) (hd : ∀ ys H, Pv xs.length ys H → cont ys H) :
    ∃ W : Nat → Nat → List V → Hp → Prop, (∃ m, W 0 m [] H0) ∧ Turns (Itl K a) g tt te vs σ cont W := by
  refine ⟨fun i m ys H => m = xs.length - i ∧ i ≤ xs.length ∧ Pv i ys H, ⟨xs.length, by simp, Nat.zero_le _, h0⟩, ?_⟩
  rintro i m ys H ⟨rfl, hi, p⟩
  have q := hl i ys H hi p
  by_cases h : i < xs.length
  · refine .inr ⟨⟨xs, xs[i], q, by simp [h]⟩, Pv (i + 1), fun zs H' p' => ⟨xs.length - (i + 1), by omega, rfl, h, p'⟩, fun x H' y => ?_⟩
    obtain ⟨e, y⟩ := y
    subst e
    exact hs i x ys _ (y xs q) p
  · have e : i = xs.length := by omega
    subst e
    exact .inl ⟨⟨xs, q, Nat.le_refl _⟩, hd ys H p⟩
theorem gx_tup {K : PySem.W.Frag} {a : Addr} {xs : List V} (h0 : Pv 0 [] H0) (hl : ∀ i ys H, i ≤ xs.length → Pv i ys H → SqT K H a xs) (hs : ∀ i x ys H, xs[i]? = some x → Pv i ys H → One g tt te vs σ Pv i ys x H) (hd : ∀ ys H, Pv xs.length ys H → cont ys H) :
    ∃ W : Nat → Nat → List V → Hp → Prop, (∃ m, W 0 m [] H0) ∧ Turns (Itt K a) g tt te vs σ cont W := by
  refine ⟨fun i m ys H => m = xs.length - i ∧ i ≤ xs.length ∧ Pv i ys H, ⟨xs.length, by simp, Nat.zero_le _, h0⟩, ?_⟩
  rintro i m ys H ⟨rfl, hi, p⟩
  have q := hl i ys H hi p
  by_cases h : i < xs.length
  · refine .inr ⟨⟨xs, xs[i], q, by simp [h]⟩, Pv (i + 1), fun zs H' p' => ⟨xs.length - (i + 1), by omega, rfl, h, p'⟩, fun x H' y => ?_⟩
    obtain ⟨e, y⟩ := y
    subst e
    exact hs i x ys _ (y xs q) p
  · have e : i = xs.length := by omega
    subst e
    exact .inl ⟨⟨xs, q, Nat.le_refl _⟩, hd ys H p⟩
end
end GenX

set_option Elab.async false
set_option linter.all false
set_option maxRecDepth 100000
set_option maxHeartbeats 1000000
/-! ### data whose tuples may be the module's; xs.extend of such a tuple -/
namespace K5
open PySem PySem.Spec PyProof.Rows L2
theorem SqT.kt {K : PySem.W.Frag} {F : Addr → Prop} {H G : Hp} {a : Addr} {xs : List V} (k : Kt F H G) (h : SqT K H a xs) : SqT K G a xs := by
  rcases h with (h | ⟨o, h⟩) | h
  · exact .inl (.inl (k.tup h))
  · exact .inl (.inr ⟨o, k _ _ h (fun _ z => nomatch z) fun m => nomatch m⟩)
  · exact .inr h
def DatK (K : PySem.W.Frag) (H : Hp) : Nat → V → Nat → Nat → Prop
  | 0, _, _, _ => False
  | n + 1, v, w, z => (leafV v = true ∧ w = 1 ∧ z = 1) ∨ ∃ a xs u, v = .ref a ∧ SqT K H a xs ∧ SumD (DatK K H n) xs w u ∧ z = u + 1
theorem DatK.pos {K : PySem.W.Frag} {H : Hp} : ∀ {n : Nat} {v : V} {w z : Nat}, DatK K H n v w z → 1 ≤ z
  | 0, _, _, _, h => h.elim
  | _ + 1, _, _, _, .inl h => by omega
  | _ + 1, _, _, _, .inr ⟨a, xs, u, e, h, s, f⟩ => by omega
theorem SumD.lenK {K : PySem.W.Frag} {H : Hp} {n : Nat} : ∀ {xs : List V} {w z : Nat}, SumD (DatK K H n) xs w z → xs.length ≤ z
  | [], _, _, _ => Nat.zero_le _
  | _ :: _, _, _, ⟨x, y, a, b, p, r, e, f⟩ => by
    have h1 := p.pos
    have h2 := SumD.lenK r
    rw [List.length_cons]
    omega
theorem DatK.kt {K : PySem.W.Frag} {F : Addr → Prop} {H G : Hp} (k : Kt F H G) : ∀ {n : Nat} {v : V} {w z : Nat}, DatK K H n v w z → DatK K G n v w z
  | 0, _, _, _, h => h
  | _ + 1, _, _, _, .inl h => .inl h
  | _ + 1, _, _, _, .inr ⟨a, xs, u, e, h, s, f⟩ => .inr ⟨a, xs, u, e, SqT.kt k h, s.imp fun _ _ _ p => DatK.kt k p, f⟩
theorem DatK.up {K : PySem.W.Frag} {H : Hp} : ∀ {n : Nat} {v : V} {w z : Nat}, DatK K H n v w z → DatK K H (n + 1) v w z
  | 0, _, _, _, h => h.elim
  | _ + 1, _, _, _, .inl h => .inl h
  | _ + 1, _, _, _, .inr ⟨a, xs, u, e, h, s, f⟩ => .inr ⟨a, xs, u, e, h, s.imp fun _ _ _ p => DatK.up p, f⟩
theorem DatK.leaf {K : PySem.W.Frag} {H : Hp} {n : Nat} {v : V} (h : leafV v = true) : DatK K H (n + 1) v 1 1 := .inl ⟨h, rfl, rfl⟩
theorem SqT.ty {K : PySem.W.Frag} {H : Hp} {a : Addr} {xs : List V} (h : SqT K H a xs) : TyX K H (.ref a) (.type "tuple") := by
  rcases h with (h | ⟨o, h⟩) | ⟨o, its, n, h, c, _⟩
  · exact .base (.tup h)
  · exact .fTuple h
  · exact .kTuple h c
def rExtS (K : PySem.W.Frag) : V → List V → Hp → VK → Prop := fun x vs H Q => ∃ l b xs zs, x = .ref l ∧ vs = [.ref b] ∧ H l = some (.lst xs) ∧ SqT K H b zs ∧ xs.length + zs.length ≤ sizeLine ∧ Q .non (upd H l (.lst (xs ++ zs)))
section
variable {X : Cx}
theorem mt_extS : MtM X "list.extend" (rExtS X.K) := by
  intro pins s σ H x vs v us Q I rx rv h
  obtain ⟨l, b, xs, zs, rfl, rfl, hH, hB, hz, q⟩ := h
  cases rx
  obtain ⟨u, rfl, ru⟩ := rv.one
  cases ru
  obtain ⟨z, ja, n, r, hl, e⟩ := I.lstM hH
  obtain ⟨jb, r2, ⟨⟨oc, od, oda, osl⟩, e2, c2, m, d2⟩, _⟩ := I.tuple hB
  dsimp only at c2 d2
  subst c2 d2
  have hl2 := r2.length
  have fits : ja.toArray.size + jb.toArray.size ≤ sizeLine := by
    rw [List.size_toArray, List.size_toArray, ← hl, ← hl2]
    exact hz
  have door : ¬ (!ja.toArray.isEmpty && Builtin.List.listTooLong (ja.toArray.size + jb.toArray.size)) = true := by
    rw [notLongL fits, Bool.and_false]; exact Bool.false_ne_true
  refine call_meets F.slot_list_extend ⟨_, e, rfl⟩ F.entry_list_extend (F.args_list_extend_2 _ _) (ext_tup l ja.toArray n b jb.toArray m od osl door (by rw [List.size_toArray]; omega) (by omega)) ⟨e, e2, ?_⟩
  exact ⟨.non, _, I.lset (its' := ja ++ jb) hH e (by simp) (r.append r2) (by rw [List.length_append]; exact hz), rfl, q⟩
end
end K5

set_option Elab.async false
set_option linter.all false
set_option maxRecDepth 100000
/-! ### 3. The text by places, and what the top has written -/
namespace K5
open PySem PySem.Spec PyProof.Rows L2
def top (i : Nat) : Stmt := PySem.Challenge.pw_stillcopy_k09_whole_copies_of_one_moment.main.body.getD i (.Pass ⟨0, 0, 0, 0⟩)
abbrev sWithin : Stmt := top 25
abbrev sHeavy : Stmt := top 59
abbrev sCheck : Stmt := top 60
abbrev sDk (j : Nat) : Stmt := inClass (top 61) j
/-- a def of the module -/
structure Df (K : PySem.W.Frag) (mg : Str → Option Value) (x : Str) (st : Stmt) (f : Addr) : Prop where
  fn : ∃ fd, Fun K x x st f fd
  at_ : mg x = some (.ref f)
theorem Df.kp {K : PySem.W.Frag} {mg : Str → Option Value} {x : Str} {st : Stmt} {f : Addr} (d : Df K mg x st f) : PySem.W.keepIn K (.ref f) = true := by
  obtain ⟨_, F⟩ := d.fn
  exact F.kp
/-- a method of the class at C -/
structure Md (K : PySem.W.Frag) (C : Addr) (m qual : Str) (st : Stmt) (f : Addr) : Prop where
  fn : ∃ fd, Fun K m qual st f fd
  me : Meth K C m f
/-- an exception class of the program -/
structure Xc (K : PySem.W.Frag) (mg : Str → Option Value) (x : Str) (C : Addr) : Prop where
  at_ : mg x = some (.ref C)
  ex : PySem.W.excIn K C [.type "ValueError", .type "Exception", .type "BaseException", .type "object"] "ValueError.__new__" = true
  kp : PySem.W.keepIn K (.ref C) = true
  sb : PySem.W.subIn K (.ref C) (.type "BaseException") = some true
  ty : PySem.W.typeIn K (.ref C) = some (.type "type")
/-- the addresses: defs, the class Disk, the classes BadBlock, Stopped -/
structure Ad where
  within : Addr
  heavy : Addr
  check : Addr
  disk : Addr
  dm : Nat → Addr
  bad : Addr
  stopped : Addr
structure Txt (K : PySem.W.Frag) (mg : Str → Option Value) (A : Ad) : Prop where
  within : Df K mg "within" sWithin A.within
  heavy : Df K mg "is_too_heavy" sHeavy A.heavy
  check : Df K mg "check_block" sCheck A.check
  blocks : ∃ t, mg "BLOCKS" = some (.int 35 t)
  most : ∃ t, mg "MOST_WEIGHT" = some (.int 40 t)
  bad : Xc K mg "BadBlock" A.bad
  stopped : Xc K mg "Stopped" A.stopped
  isinstance : mg "isinstance" = none
  int : mg "int" = none
  bool : mg "bool" = none
  tuple : mg "tuple" = none
  list : mg "list" = none
  zip : mg "zip" = none
  cl : Cls K A.disk
  nSure : NoAttr K A.disk "sure"
  nUns : NoAttr K A.disk "unsure"
  nLeft : NoAttr K A.disk "deeds_left"
  nPicks : NoAttr K A.disk "armed_picks"
  nRun : NoAttr K A.disk "running"
  nStops : NoAttr K A.disk "stops"
  m0 : Md K A.disk "__init__" "Disk.__init__" (sDk 0) (A.dm 0)
  m1 : Md K A.disk "write" "Disk.write" (sDk 1) (A.dm 1)
  m2 : Md K A.disk "settle" "Disk.settle" (sDk 2) (A.dm 2)
  m3 : Md K A.disk "read" "Disk.read" (sDk 3) (A.dm 3)
  m4 : Md K A.disk "arm" "Disk.arm" (sDk 4) (A.dm 4)
  m5 : Md K A.disk "stop" "Disk.stop" (sDk 5) (A.dm 5)
  m6 : Md K A.disk "again" "Disk.again" (sDk 6) (A.dm 6)
  m7 : Md K A.disk "settled" "Disk.settled" (sDk 7) (A.dm 7)
  m8 : Md K A.disk "check_running" "Disk.check_running" (sDk 8) (A.dm 8)
  m9 : Md K A.disk "count_deed" "Disk.count_deed" (sDk 9) (A.dm 9)
/-- the layer of defs that may raise: the exception's context is None -/
theorem okN {P : Program} {w : World} {K : PySem.W.Frag} {mg : Str → Option Value} {base : Heap} {x qual : Str} {st : Stmt} {f : Addr} {fd : FuncData} {N ps : List Str} {k : Nat} {sp : Sp} (F : Fun K x qual st f fd)
    (S : FnScope N ps (defScope st)) (len : ∀ vs H Q E, sp vs H Q E → vs.length = ps.length)
    (body : ∀ (cdv : Value) (A : Around) (outer : List Env) (s : Shared) (H : Hp) (vs : List V) (Q : VK) (E : XK), Room k (A.deeper (envOfC qual (defScope st) s.heap.objs.size f cdv)) → sp vs H Q E →
      ∃ t, PSs (cxOf (L2N.CX P w) P w K mg base N qual (defScope st) f cdv A outer s H E) (defBody st) t ∧ t { nx := fun _ G => Q .non G, rt := Q } (L2.start N vs) H) :
    FnOk P w K mg base (L2N.CX P w) (k + 1) f fd ps sp := by
  obtain ⟨oc, od, kV, doc, pm, an, cdv, ct, osl, rfl, lk, hcd⟩ := F.ex
  exact fn_of lk hcd S len fun A outer s H vs Q E hr hsp => body cdv A outer s H vs Q E hr hsp
section
variable {P : Program} {w : World} {K : PySem.W.Frag} {mg : Str → Option Value} {base : Heap} {A : Ad}
/-! ### within -/
theorem scWithin : FnScope ["number", "low", "high"] ["number", "low", "high"] (defScope sWithin) := ⟨rfl, rfl, rfl, by decide +kernel, rfl, by decide +kernel, by decide +kernel⟩
def spWithin : Sp := fun vs H Q _ => ∃ n lo hi : Int, vs = [.int n, .int lo, .int hi] ∧ Q (.bl (decide (lo ≤ n) && decide (n ≤ hi))) H
theorem ok_within (T : Txt K mg A) : ∃ fd, FnOk P w K mg base CX0 1 A.within fd ["number", "low", "high"] spWithin ∧ Binds K fd ["number", "low", "high"] [] := by
  obtain ⟨fd, F⟩ := T.within.fn
  refine ⟨fd, F.ok scWithin (fun vs H Q E h => ?_) (fun cdv A outer s H vs Q E hr h => ?_), F.binds fun _ _ _ _ _ _ us hl => match us, hl with | [_, _, _], _ => rfl⟩
  · obtain ⟨n, lo, hi, rfl, _⟩ := h
    rfl
  · obtain ⟨n, lo, hi, rfl, k⟩ := h
    refine ⟨_, pss_one (ps_ret (pe_and (pe_callB call_isi (by rfl) T.isinstance (by decide +kernel) (pa_cons (pv 0) (pa_cons (pe_bltn (v := .ty "int") (by rfl) T.int (by decide +kernel) rfl) pa_nil)))
      (pe_and (pe_not (pe_callB call_isi (by rfl) T.isinstance (by decide +kernel) (pa_cons (pv 0) (pa_cons (pe_bltn (v := .ty "bool") (by rfl) T.bool (by decide +kernel) rfl) pa_nil))))
        (pe_one (pe_chain op_le op_le (pv 1) (pv 0) (pv 2)))))), ?_⟩
    refine ⟨_, rfl, _, _, _, _, true, rfl, .ty "int", .base (.int n), by rfl, true, rfl, iteT ?_⟩
    refine ⟨_, rfl, _, _, _, _, false, rfl, .ty "bool", .base (.int n), by rfl, false, rfl, true, rfl, iteT ?_⟩
    refine ⟨_, rfl, _, rfl, _, _, rfl, rfl, _, rfl, ?_⟩
    by_cases h1 : lo ≤ n
    · rw [decide_eq_true h1]
      refine iteT ⟨_, rfl, _, _, rfl, rfl, ?_⟩
      have := k
      rw [decide_eq_true h1, Bool.true_and] at this
      exact this
    · rw [decide_eq_false h1]
      refine iteF ?_
      have := k
      rw [decide_eq_false h1, Bool.false_and] at this
      exact this
end
end K5

set_option Elab.async false
set_option linter.all false
set_option maxRecDepth 100000
set_option maxHeartbeats 1000000
namespace K5
open PySem PySem.Spec PyProof.Rows L2
section
variable {P : Program} {w : World} {K : PySem.W.Frag} {mg : Str → Option Value} {base : Heap} {A : Ad}
/-! ### check_block -/
theorem scCheck : FnScope ["block"] ["block"] (defScope sCheck) := ⟨rfl, rfl, rfl, by decide +kernel, rfl, by decide +kernel, by decide +kernel⟩
def spCheck (A : Ad) : Sp := fun vs H Q E => ∃ n : Int, vs = [.int n] ∧ (0 ≤ n → n ≤ 34 → Q .non H) ∧ (¬ (0 ≤ n ∧ n ≤ 34) → E (.ref A.bad) none H)
theorem ok_check (T : Txt K mg A) : ∃ fd, FnOk P w K mg base (L2N.CX P w) 2 A.check fd ["block"] (spCheck A) ∧ Binds K fd ["block"] [] := by
  obtain ⟨fd, F⟩ := T.check.fn
  obtain ⟨fdW, GW, bW⟩ := ok_within (P := P) (w := w) (base := base) T
  obtain ⟨tb, hb⟩ := T.blocks
  refine ⟨fd, okN F scCheck (fun vs H Q E h => ?_) (fun cdv Ar outer s H vs Q E hr h => ?_), F.binds fun _ _ _ _ _ _ us hl => match us, hl with | [_], _ => rfl⟩
  · obtain ⟨n, rfl, _⟩ := h
    rfl
  · obtain ⟨n, rfl, k1, k2⟩ := h
    refine ⟨_, pss_one (ps_if (pt_not (pt_val (pe_call GW hr rfl T.within.at_ T.within.kp bW .nil pass0 (pa_cons (pv 0) (pa_cons pe_int (pa_cons (pe_op op_sub (pe_glob (v := .int 35) rfl hb ⟨_, rfl⟩) pe_int) pa_nil))))))
      (pss_one (L2N.ps_raise rfl (L2N.takes_of rfl rfl rfl rfl) (L2N.pmk_own PySem.F.excBase_ValueError T.bad.ex T.bad.at_ T.bad.kp (raises_own T.bad.sb T.bad.ty) rfl))) pss_nil), ?_⟩
    refine ⟨_, rfl, _, _, rfl, rfl, n, 0, 34, rfl, _, rfl, ?_⟩
    by_cases h : 0 ≤ n ∧ n ≤ 34
    · rw [decide_eq_true h.1, decide_eq_true h.2]
      exact iteF (k1 h.1 h.2)
    · have e : (decide (0 ≤ n) && decide (n ≤ 34)) = false := by
        rw [← Bool.not_eq_true, Bool.and_eq_true, decide_eq_true_eq, decide_eq_true_eq]
        exact h
      rw [e]
      exact iteT (k2 h)
/-! ### is_too_heavy -/
theorem scHeavy : FnScope ["what", "weight", "waiting", "part"] ["what"] (defScope sHeavy) := ⟨rfl, rfl, rfl, by decide +kernel, rfl, by decide +kernel, by decide +kernel⟩
def spHeavy (K : PySem.W.Frag) : Sp := fun vs H Q _ => ∃ (v : V) (n x z : Nat), vs = [v] ∧ DatK K H n v x z ∧ z ≤ 10000 ∧ ∀ G, Kp No H G → Q (.bl (decide (40 < (x : Int)))) G
theorem ok_heavy (T : Txt K mg A) : ∃ fd, FnOk P w K mg base CX0 1 A.heavy fd ["what"] (spHeavy K) ∧ Binds K fd ["what"] [] := by
  obtain ⟨fd, F⟩ := T.heavy.fn
  obtain ⟨tb, hb⟩ := T.most
  refine ⟨fd, F.ok scHeavy (fun vs H Q E h => ?_) (fun cdv Ar outer s H vs Q E hr h => ?_), F.binds fun _ _ _ _ _ _ us hl => match us, hl with | [_], _ => rfl⟩
  · obtain ⟨v, n, x, z, rfl, _⟩ := h
    rfl
  · obtain ⟨v, n, x, z, rfl, hd, hz, k⟩ := h
    refine ⟨_, pss_cons (ps_set (i := 1) scHeavy.nd rfl (.inl rfl) pe_int) (pss_cons (ps_set (i := 2) scHeavy.nd rfl (.inl rfl) (pe_lst (pa_cons (pv 0) pa_nil)))
      (pss_cons (ps_while PassesOwn.never (PW.pt (pw_and (pt_truth (pv 2) (by intro _; rfl)) (pw_and1 (pt_cmpR op_le (pv 1) (pe_glob (v := .int 40) rfl hb ⟨_, rfl⟩) (nomark _)))))
        (pss_cons (ps_set (i := 3) scHeavy.nd rfl (.inl rfl) (pe_bm0 PySem.F.plainAttrs_list PySem.F.slot_list_pop PySem.F.type_list_pop mt_pop (pv 2)))
        (pss_one (ps_if (pt_val (pe_callB call_isi (by rfl) T.isinstance (by decide +kernel) (pa_cons (pv 3) (pa_cons (pe_bltn (v := .ty "tuple") (by rfl) T.tuple (by decide +kernel) rfl) pa_nil))))
          (pss_one (ps_expr (pe_bm PySem.F.plainAttrs_list PySem.F.slot_list_extend PySem.F.type_list_extend mt_extS (pv 2) (pa_cons (pv 3) pa_nil))))
          (pss_one (ps_aug (i := 1) scHeavy.nd rfl (.inl rfl) pe_int ip_add))))))
      (pss_one (ps_ret (pe_cmpR op_gt (pv 1) (pe_glob (v := .int 40) rfl hb ⟨_, rfl⟩) (nomark _)))))), ?_⟩
    refine ⟨v, rfl, Nat.le_trans (by show 1 ≤ 16777216; omega) (Nat.le_of_eq sizeLine_eq.symm), fun l hl => ?_⟩
    have dt : ∀ {l : Addr} {xs : List V} {m : Nat} {v : V} {a b : Nat}, H l = none → DatK K H m v a b → DatK K (upd H l (.lst xs)) m v a b := fun h d => d.kt (Kp.new (F := No) h).t
    refine ⟨fun m σ G => ∃ (xs : List V) (a : Nat) (wt : Int) (o : Option V), σ = [some v, some (.int wt), some (.ref l), o] ∧ G = upd H l (.lst xs) ∧ SumD (DatK K H n) xs a m ∧ wt + a = x ∧ 0 ≤ wt ∧ m ≤ 10000, ⟨z, [v], x, 0, none, rfl, rfl, ⟨x, 0, z, 0, hd, ⟨rfl, rfl⟩, rfl, rfl⟩, by omega, by omega, hz⟩, ?_⟩
    rintro m σ G ⟨xs, a, wt, o, rfl, rfl, hs, hw, h0, hm⟩
    have fin : (∀ c : Bool, c = decide (40 < (x : Int)) → Q (.bl c) (upd H l (.lst xs))) := fun c e => by
      rw [e]
      exact k _ (Kp.new hl)
    -- while waiting and weight <= MOST_WEIGHT
    refine ⟨_, rfl, !xs.isEmpty, .inl ⟨xs, SqL.of upd_same, rfl⟩, ?_⟩
    rcases List.eq_nil_or_concat xs with rfl | ⟨ys, y, rfl⟩
    · -- none is waiting
      have ha : a = 0 := hs.1
      refine iteF (iteF ?_)
      exact ⟨_, rfl, _, _, rfl, rfl, fin _ (by rw [show (x : Int) = wt by omega])⟩
    · rw [show (!(ys.concat y).isEmpty) = true by simp]
      refine iteT ⟨_, rfl, _, _, rfl, rfl, _, rfl, ?_⟩
      refine ite2 (fun hle => ?_) (fun hgt => ?_)
      · rw [List.concat_eq_append] at hs ⊢
        obtain ⟨x1, a1, x2, a2, p1, ⟨x3, x4, a3, a4, p2, ⟨rfl, rfl⟩, rfl, rfl⟩, rfl, rfl⟩ := hs.of_app
        refine ⟨_, fun σ' G' q => q, ?_⟩
        -- part = waiting.pop()
        refine ⟨_, rfl, .inl ⟨rfl, _, SqL.of upd_same⟩, l, _, y, rfl, rfl, upd_same, by simp, ?_⟩
        rw [List.dropLast_concat, upd_upd]
        have hp3 := p2.pos
        cases n with
        | zero => exact p2.elim
        | succ n =>
          rcases p2 with ⟨lf, rfl, rfl⟩ | ⟨b, zs, u, rfl, hb', hs', rfl⟩
          · -- a leaf
            have ty : ∃ t, TyX K (upd H l (.lst ys)) y t ∧ PySem.W.kitOne K t (.type "tuple") = some false := by
              cases y with
              | non => exact ⟨_, .base .non, by rfl⟩
              | bl b => exact ⟨_, .base (.bl b), by rfl⟩
              | int i => exact ⟨_, .base (.int i), by rfl⟩
              | str z => exact ⟨_, .base (.str z), by rfl⟩
              | byt _ => cases lf
              | flt _ => cases lf
              | ref _ => cases lf
              | ty _ => cases lf
            obtain ⟨t, ty1, ty2⟩ := ty
            refine ⟨_, rfl, y, _, t, _, false, rfl, .ty "tuple", ty1, ty2, false, rfl, iteF ?_⟩
            refine ⟨_, rfl, wt, 1, rfl, rfl, a1, by omega, ys, x1, wt + 1, some y, rfl, rfl, p1, by omega, by omega, by omega⟩
          · -- a tuple
            have hb2 : SqT K (upd H l (.lst ys)) b zs := SqT.kt (Kp.new (F := No) hl).t hb'
            have l1 := SumD.lenK p1
            have l2 := SumD.lenK hs'
            refine ⟨_, rfl, .ref b, _, _, _, true, rfl, .ty "tuple", SqT.ty hb2, by rfl, true, rfl, iteT ?_⟩
            refine ⟨_, rfl, .inl ⟨rfl, _, SqL.of upd_same⟩, _, rfl, l, b, ys, zs, rfl, rfl, upd_same, hb2, by rw [sizeLine_eq]; omega, ?_⟩
            rw [upd_upd]
            exact ⟨a1 + u, by omega, ys ++ zs, _, wt, _, rfl, rfl, p1.app (hs'.imp fun _ _ _ q => q.up), by omega, by omega, by omega⟩
      · have hgt : ¬ wt ≤ 40 := by simpa using hgt
        exact ⟨_, rfl, _, _, rfl, rfl, fin _ (by rw [decide_eq_true (show (40 : Int) < wt by omega), decide_eq_true (show (40 : Int) < x by omega)])⟩
end
end K5

set_option Elab.async false
set_option linter.all false
set_option maxRecDepth 100000
set_option maxHeartbeats 1000000
/-! ### 4. A disk: what it holds, and its methods -/
namespace K5
open PySem PySem.Spec PyProof.Rows L2
/-- what a disk (or the law's own telling of one) holds -/
structure M where
  sure : List V
  pend : List (Int × V)
  left : Option Int
  picks : List Bool
  run : Bool
  stops : Int
def put1 (s : List V) (q : Int × V) : List V := s.set q.1.toNat q.2
def putAll (s : List V) (ps : List (Int × V)) : List V := ps.foldl put1 s
def putIf (s : List V) (ps : List ((Int × V) × Bool)) : List V := ps.foldl (fun s q => if q.2 then put1 s q.1 else s) s
def M.new : M := ⟨List.replicate 35 .non, [], none, [], true, 0⟩
def M.stop (m : M) (bs : List Bool) : M := if m.run then ⟨putIf m.sure (m.pend.zip bs), [], m.left, m.picks, false, m.stops + 1⟩ else m
def M.again (m : M) : M := ⟨m.sure, [], none, [], true, m.stops⟩
def M.arm (m : M) (n : Int) (bs : List Bool) : M := if m.run then ⟨m.sure, m.pend, some n, bs, m.run, m.stops⟩ else m
/-- whether one more deed is done, and what is behind it -/
def M.count (m : M) : Bool × M := if m.run then (match m.left with
  | none => (true, m)
  | some l => if l ≤ 0 then (false, m.stop m.picks) else (true, ⟨m.sure, m.pend, some (l - 1), m.picks, m.run, m.stops⟩)) else (false, m)
def M.settle (m : M) : M := ⟨putAll m.sure m.pend, [], m.left, m.picks, m.run, m.stops⟩
def M.write (m : M) (b : Int) (v : V) : M := ⟨m.sure, m.pend ++ [(b, v)], m.left, m.picks, m.run, m.stops⟩
theorem put1_len (s : List V) (q : Int × V) : (put1 s q).length = s.length := List.length_set ..
theorem putIf_len : ∀ (ps : List ((Int × V) × Bool)) (s : List V), (putIf s ps).length = s.length
  | [], _ => rfl
  | (q, b) :: ps, s => by
    show (putIf (if b then put1 s q else s) ps).length = _
    rw [putIf_len ps]
    cases b
    · rfl
    · exact put1_len s q
theorem putAll_len : ∀ (ps : List (Int × V)) (s : List V), (putAll s ps).length = s.length
  | [], _ => rfl
  | q :: ps, s => by
    show (putAll (put1 s q) ps).length = _
    rw [putAll_len ps, put1_len]
def optV : Option Int → V
  | none => .non
  | some l => .int l
def dfl (ls lu : Addr) (lf : V) (tp : Addr) (rn : Bool) (st : Int) : List (Str × V) := [("sure", .ref ls), ("unsure", .ref lu), ("deeds_left", lf), ("armed_picks", .ref tp), ("running", .bl rn), ("stops", .int st)]
section
variable (ls lu tp x : Addr) (lf v : V) (rn b : Bool) (st i : Int)
theorem l_sure : (dfl ls lu lf tp rn st).lookup ("sure" : Str) = some (.ref ls) := rfl
theorem l_uns : (dfl ls lu lf tp rn st).lookup ("unsure" : Str) = some (.ref lu) := rfl
theorem l_left : (dfl ls lu lf tp rn st).lookup ("deeds_left" : Str) = some lf := rfl
theorem l_picks : (dfl ls lu lf tp rn st).lookup ("armed_picks" : Str) = some (.ref tp) := rfl
theorem l_run : (dfl ls lu lf tp rn st).lookup ("running" : Str) = some (.bl rn) := rfl
theorem l_stops : (dfl ls lu lf tp rn st).lookup ("stops" : Str) = some (.int st) := rfl
theorem p_uns : putF "unsure" (.ref x) (dfl ls lu lf tp rn st) = dfl ls x lf tp rn st := rfl
theorem p_left : putF "deeds_left" v (dfl ls lu lf tp rn st) = dfl ls lu v tp rn st := rfl
theorem p_picks : putF "armed_picks" (.ref x) (dfl ls lu lf tp rn st) = dfl ls lu lf x rn st := rfl
theorem p_run : putF "running" (.bl b) (dfl ls lu lf tp rn st) = dfl ls lu lf tp b st := rfl
theorem p_stops : putF "stops" (.int i) (dfl ls lu lf tp rn st) = dfl ls lu lf tp rn i := rfl
end
def PairOf (H : Hp) (v : V) (q : Int × V) : Prop := ∃ t, v = .ref t ∧ H t = some (.tup [.int q.1, q.2])
def PairsAt (H : Hp) (rs : List V) (ps : List (Int × V)) : Prop := Paired (PairOf H) rs ps
theorem PairsAt.kt {F : Addr → Prop} {H G : Hp} (k : Kt F H G) {rs : List V} {ps : List (Int × V)} (p : PairsAt H rs ps) : PairsAt G rs ps := Paired.mapP p fun _ _ ⟨t, e, h⟩ => ⟨t, e, k.tup h⟩
/-- a Disk at p: its blocks at ls, what isn't settled at lu -/
structure DiskAt (A : Ad) (H : Hp) (p ls lu : Addr) (m : M) : Prop where
  ex : ∃ (dx tp : Addr) (st : Int), H p = some (.ins A.disk dx (dfl ls lu (optV m.left) tp m.run st)) ∧ H tp = some (.tup (m.picks.map V.bl)) ∧ st = m.stops
  sure : H ls = some (.lst m.sure)
  uns : ∃ rs, H lu = some (.lst rs) ∧ PairsAt H rs m.pend
  ne : ls ≠ lu
def dF (p ls lu : Addr) : Addr → Prop := fun b => b = p ∨ b = ls ∨ b = lu
theorem DiskAt.kt {A : Ad} {F : Addr → Prop} {H G : Hp} {p ls lu : Addr} {m : M} (k : Kt F H G) (d : DiskAt A H p ls lu m) (n : ∀ b, F b → ¬ dF p ls lu b) : DiskAt A G p ls lu m := by
  obtain ⟨dx, tp, st, h1, h2, hst⟩ := d.ex
  obtain ⟨rs, h3, h4⟩ := d.uns
  exact ⟨⟨dx, tp, st, k.ins h1 fun z => n _ z (.inl rfl), k.tup h2, hst⟩, k.lst d.sure fun z => n _ z (.inr (.inl rfl)), ⟨rs, k.lst h3 fun z => n _ z (.inr (.inr rfl)), h4.kt k⟩, d.ne⟩
/-- all that is to be known of the numbers in it -/
structure Good (m : M) : Prop where
  len : m.sure.length = 35
  blk : ∀ q ∈ m.pend, 0 ≤ q.1 ∧ q.1 ≤ 34
  few : m.pend.length ≤ 1000
  fal : m.run = false → m.pend = []
  nat : ∀ l, m.left = some l → 0 ≤ l
end K5

set_option Elab.async false
set_option linter.all false
set_option maxRecDepth 100000
set_option maxHeartbeats 1000000
namespace K5
open PySem PySem.Spec PyProof.Rows L2
section
variable {P : Program} {w : World} {K : PySem.W.Frag} {mg : Str → Option Value} {base : Heap} {A : Ad}
theorem sz (n : Nat) (h : n ≤ 16777216) : n ≤ sizeLine := by rw [sizeLine_eq]; exact h
/-! ### Disk() -/
theorem scDk0 : FnScope ["self"] ["self"] (defScope (sDk 0)) := ⟨rfl, rfl, rfl, by decide +kernel, rfl, by decide +kernel, by decide +kernel⟩
def spDk0 (A : Ad) : Sp := fun vs H Q _ => ∃ p dx, vs = [.ref p] ∧ H p = some (.ins A.disk dx []) ∧ ∀ G ls lu, H ls = none → H lu = none → DiskAt A G p ls lu M.new → Kp (fun b => b = p) H G → Q .non G
theorem ok_dk0 (T : Txt K mg A) : ∃ fd, FnOk P w K mg base CX0 1 (A.dm 0) fd ["self"] (spDk0 A) ∧ Binds K fd ["self"] [] := by
  obtain ⟨fd, F⟩ := T.m0.fn
  obtain ⟨tb, hb⟩ := T.blocks
  refine ⟨fd, F.ok scDk0 (fun vs H Q E h => ?_) (fun cdv Ar outer s H vs Q E hr h => ?_), F.binds fun _ _ _ _ _ _ us hl => match us, hl with | [_], _ => rfl⟩
  · obtain ⟨p, dx, rfl, _⟩ := h
    rfl
  · obtain ⟨p, dx, rfl, hp, k⟩ := h
    refine ⟨_, pss_cons (ps_fld (pv 0) (pe_op op_rep (pe_lst (pa_cons pe_non pa_nil)) (pe_glob (v := .int 35) rfl hb ⟨_, rfl⟩)) rfl) (pss_cons (ps_fld (pv 0) (pe_lst pa_nil) rfl)
      (pss_cons (ps_fld (pv 0) pe_non rfl) (pss_cons (ps_fld (pv 0) (pe_tup pa_nil) rfl) (pss_cons (ps_fld (pv 0) pe_bl rfl) (pss_one (ps_fld (pv 0) pe_int rfl)))))), ?_⟩
    -- self.sure = [None] * BLOCKS
    refine ⟨sz _ (by decide), fun l0 n0 => ⟨l0, 35, _, rfl, rfl, upd_same, by decide, by decide, sz _ (by decide), fun ls nls => ?_⟩⟩
    have np0 : p ≠ l0 := ne_of_none hp n0
    obtain ⟨nl0s, hls⟩ := upd_none nls
    have nps : p ≠ ls := ne_of_none hp hls
    refine ⟨_, rfl, p, A.disk, dx, [], rfl, by rw [upd_ne nps, upd_ne np0]; exact hp, T.cl, T.nSure, by show 0 < 1000; decide, ?_⟩
    -- self.unsure = []
    refine ⟨Nat.zero_le _, fun lu nlu => ?_⟩
    obtain ⟨npu, nlu⟩ := upd_none nlu
    obtain ⟨nsu, nlu⟩ := upd_none nlu
    obtain ⟨n0u, hlu⟩ := upd_none nlu
    refine ⟨_, rfl, p, A.disk, dx, _, rfl, by rw [upd_ne npu.symm, upd_same], T.cl, T.nUns, by show 1 < 1000; decide, ?_⟩
    -- self.deeds_left = None
    refine ⟨_, rfl, p, A.disk, dx, _, rfl, upd_same, T.cl, T.nLeft, by show 2 < 1000; decide, ?_⟩
    -- self.armed_picks = ()
    refine ⟨Nat.zero_le _, fun tp ntp => ?_⟩
    obtain ⟨npt, ntp⟩ := upd_none ntp
    obtain ⟨_, ntp⟩ := upd_none ntp
    obtain ⟨nut, ntp⟩ := upd_none ntp
    obtain ⟨_, ntp⟩ := upd_none ntp
    obtain ⟨nst, ntp⟩ := upd_none ntp
    obtain ⟨n0t, htp⟩ := upd_none ntp
    refine ⟨_, rfl, p, A.disk, dx, _, rfl, by rw [upd_ne npt.symm, upd_same], T.cl, T.nPicks, by show 3 < 1000; decide, _, rfl, p, A.disk, dx, _, rfl, upd_same, T.cl, T.nRun, by show 4 < 1000; decide, _, rfl, p, A.disk, dx, _, rfl, upd_same, T.cl, T.nStops, by show 5 < 1000; decide, ?_⟩
    refine k _ ls lu hls hlu ⟨⟨dx, tp, 0, upd_same, ?_, rfl⟩, ?_, ⟨[], ?_, .nil⟩, nsu.symm⟩ ?_
    · rw [upd_ne npt, upd_ne npt, upd_ne npt, upd_same]
      rfl
    · rw [upd_ne nps.symm, upd_ne nps.symm, upd_ne nps.symm, upd_ne nst.symm, upd_ne nps.symm, upd_ne nps.symm, upd_ne nsu.symm, upd_ne nps.symm, upd_same]
      rfl
    · rw [upd_ne npu, upd_ne npu, upd_ne npu, upd_ne nut.symm, upd_ne npu, upd_ne npu, upd_same]
    · intro b o e n
      by_cases hbp : b = p
      · subst hbp
        rw [hp] at e
        cases e
        exact (n trivial rfl).elim
      · rw [upd_ne hbp, upd_ne hbp, upd_ne hbp, upd_ne (ne_of_none e htp), upd_ne hbp, upd_ne hbp, upd_ne (ne_of_none e hlu), upd_ne hbp, upd_ne (ne_of_none e hls), upd_ne (ne_of_none e n0)]
        exact e
/-! ### check_running -/
theorem scDk8 : FnScope ["self"] ["self"] (defScope (sDk 8)) := ⟨rfl, rfl, rfl, by decide +kernel, rfl, by decide +kernel, by decide +kernel⟩
def spDk8 (A : Ad) : Sp := fun vs H Q E => ∃ p ls lu m, vs = [.ref p] ∧ DiskAt A H p ls lu m ∧ (m.run = true → Q .non H) ∧ (m.run = false → E (.ref A.stopped) none H)
theorem ok_dk8 (T : Txt K mg A) : ∃ fd, FnOk P w K mg base (L2N.CX P w) 1 (A.dm 8) fd ["self"] (spDk8 A) ∧ Binds K fd ["self"] [] := by
  obtain ⟨fd, F⟩ := T.m8.fn
  refine ⟨fd, okN F scDk8 (fun vs H Q E h => ?_) (fun cdv Ar outer s H vs Q E hr h => ?_), F.binds fun _ _ _ _ _ _ us hl => match us, hl with | [_], _ => rfl⟩
  · obtain ⟨p, ls, lu, m, rfl, _⟩ := h
    rfl
  · obtain ⟨p, ls, lu, m, rfl, D, k1, k2⟩ := h
    obtain ⟨dx, tp, st, h1, h2, hst⟩ := D.ex
    refine ⟨_, pss_one (ps_if (pt_not (pt_val (pe_fld (pv 0) rfl))) (pss_one (L2N.ps_raise rfl (L2N.takes_of rfl rfl rfl rfl) (L2N.pmk_own PySem.F.excBase_ValueError T.stopped.ex T.stopped.at_ T.stopped.kp (raises_own T.stopped.sb T.stopped.ty) rfl))) pss_nil), ?_⟩
    refine ⟨_, rfl, p, A.disk, dx, _, _, rfl, h1, T.cl, T.nRun, l_run .., _, rfl, ?_⟩
    cases e : m.run with
    | true => exact iteF (k1 e)
    | false => exact iteT (k2 e)
end
end K5

set_option Elab.async false
set_option linter.all false
set_option maxRecDepth 100000
set_option maxHeartbeats 1000000
namespace K5
open PySem PySem.Spec PyProof.Rows L2
theorem Paired.at {α β : Type} {R : α → β → Prop} : ∀ {xs : List α} {ys : List β}, Paired R xs ys → ∀ {i : Nat} {x : α}, xs[i]? = some x → ∃ y, ys[i]? = some y ∧ R x y
  | _, _, .nil, i, x, h => by simp at h
  | _, _, .cons r t, 0, x, h => by
    cases (Option.some.inj h)
    exact ⟨_, rfl, r⟩
  | _, _, .cons r t, i + 1, x, h => by
    obtain ⟨y, h1, h2⟩ := Paired.at t (i := i) (by simpa using h)
    exact ⟨y, by simpa using h1, h2⟩
theorem take_succ_of {α : Type} {xs : List α} {i : Nat} {x : α} (h : xs[i]? = some x) : xs.take (i + 1) = xs.take i ++ [x] := by
  rw [List.take_succ, h]
  rfl
theorem putIf_app (s : List V) (ps : List ((Int × V) × Bool)) (q : (Int × V) × Bool) : putIf s (ps ++ [q]) = if q.2 then put1 (putIf s ps) q.1 else putIf s ps := by
  unfold putIf
  rw [List.foldl_append]
  rfl
theorem putAll_app (s : List V) (ps : List (Int × V)) (q : Int × V) : putAll s (ps ++ [q]) = put1 (putAll s ps) q := by
  unfold putAll
  rw [List.foldl_append]
  rfl
theorem ixN_in {n : Nat} {i : Int} (h0 : 0 ≤ i) (h1 : i < n) : ixN n i = some i.toNat := by
  unfold ixN
  rw [if_pos h0, if_pos h1]
section
variable {P : Program} {w : World} {K : PySem.W.Frag} {mg : Str → Option Value} {base : Heap} {A : Ad}
/-! ### stop -/
theorem scDk5 : FnScope ["self", "picks", "block", "what", "pick"] ["self", "picks"] (defScope (sDk 5)) := ⟨rfl, rfl, rfl, by decide +kernel, rfl, by decide +kernel, by decide +kernel⟩
/-- a list or a tuple of truths -/
def BoolsAt (H : Hp) (b : Addr) (bs : List Bool) : Prop := H b = some (.lst (bs.map V.bl)) ∨ H b = some (.tup (bs.map V.bl))
def spDk5 (A : Ad) : Sp := fun vs H Q _ => ∃ p ls lu m b bs, vs = [.ref p, .ref b] ∧ DiskAt A H p ls lu m ∧ Good m ∧ BoolsAt H b bs ∧ b ≠ ls ∧
  ∀ G lu', (lu' = lu ∨ H lu' = none) → DiskAt A G p ls lu' (m.stop bs) → Kp (dF p ls lu) H G → Q .non G
theorem stop_body {H : Hp} {p ls lu tp dx b : Addr} {st : Int} {rn : Bool} {m : M} {bs : List Bool} {lf : V} (h1 : H p = some (.ins A.disk dx (dfl ls lu lf tp rn st))) (hs : H ls = some (.lst m.sure)) (T : Txt K mg A) (Gm : Good m) (nps : p ≠ ls) {D' : Ends} :
    ∀ (i : Nat) (q : Int × V) (c : Bool) (σ : L2.St) (G : Hp), m.pend[i]? = some q → bs[i]? = some c → (∃ o1 o2 o3, σ = [some (.ref p), some (.ref b), o1, o2, o3]) → Kp (fun b => b = ls) H G → G ls = some (.lst (putIf m.sure ((m.pend.zip bs).take i))) →
      ∀ (nx : L2.St → Hp → Prop), (∀ (σ' : L2.St) (G' : Hp), (∃ o1 o2 o3, σ' = [some (.ref p), some (.ref b), o1, o2, o3]) → Kp (fun b => b = ls) H G' → G' ls = some (.lst (putIf m.sure ((m.pend.zip bs).take (i + 1)))) → nx σ' G') →
      tIfS (tB (tVar 4)) (tAsg (tVar 3) (gSub (tFld K (tVar 0) "sure") (tVar 2) rSetL)) tNext { D' with nx := nx, ct := nx, bk := D'.nx } [some (.ref p), some (.ref b), some (.int q.1), some q.2, some (.bl c)] G := by
  intro i q c σ G hq hc _ kp hls nx hnx
  have hz : (m.pend.zip bs)[i]? = some (q, c) := by rw [List.getElem?_zip_eq_some]; exact ⟨hq, hc⟩
  have e1 := take_succ_of hz
  refine ⟨_, rfl, _, rfl, ?_⟩
  cases c with
  | false =>
    refine iteF (hnx _ _ ⟨_, _, _, rfl⟩ kp ?_)
    rw [e1, putIf_app]
    exact hls
  | true =>
    refine iteT ?_
    have hr := Gm.blk q (List.mem_of_getElem? hq)
    have hl : (putIf m.sure ((m.pend.zip bs).take i)).length = 35 := by rw [putIf_len, Gm.len]
    refine ⟨_, rfl, _, rfl, p, A.disk, dx, _, _, rfl, kp.t.ins h1 nps, T.cl, T.nSure, l_sure .., _, rfl, ls, _, q.1, q.1.toNat, rfl, rfl, hls, ixN_in hr.1 (by rw [hl]; omega), ?_⟩
    refine hnx _ _ ⟨_, _, _, rfl⟩ (kp.trans (Kp.upd (F := fun b => b = ls) hls trivial rfl) fun _ z => .inl z) ?_
    rw [upd_same, e1, putIf_app]
    rfl
theorem stop_fin {H : Hp} {p ls lu tp dx b : Addr} {st : Int} {m : M} {bs : List Bool} {rs : List V} {Q : VK} (h1 : H p = some (.ins A.disk dx (dfl ls lu (optV m.left) tp true st))) (h2 : H tp = some (.tup (m.picks.map V.bl))) (h3 : H lu = some (.lst rs)) (D : DiskAt A H p ls lu m) (T : Txt K mg A) (nps : p ≠ ls) (npu : p ≠ lu) (hst : st = m.stops)
    (em : m.stop bs = ⟨putIf m.sure (m.pend.zip bs), [], m.left, m.picks, false, m.stops + 1⟩) (k : ∀ G lu', (lu' = lu ∨ H lu' = none) → DiskAt A G p ls lu' (m.stop bs) → Kp (dF p ls lu) H G → Q .non G) :
    ∀ (σ : L2.St) (G : Hp), (∃ o1 o2 o3, σ = [some (.ref p), some (.ref b), o1, o2, o3]) → Kp (fun b => b = ls) H G → G ls = some (.lst (putIf m.sure (m.pend.zip bs))) →
      tSeq (sFld K (tVar 0) (tLst tNil) "unsure") (tSeq (sFld K (tVar 0) (tC (.bl false)) "running") (sFldAug K (tVar 0) (tC (.int 1)) rAdd "stops")) { nx := fun _ G => Q .non G, rt := Q } σ G := by
  rintro σ G ⟨o1, o2, o3, rfl⟩ kp hls
  have g1 := kp.t.ins h1 nps
  refine ⟨Nat.zero_le _, fun lu' nlu => ?_⟩
  have npl : p ≠ lu' := ne_of_none g1 nlu
  have nsl : ls ≠ lu' := ne_of_none hls nlu
  refine ⟨_, rfl, p, A.disk, dx, _, rfl, by rw [upd_ne npl]; exact g1, T.cl, T.nUns, by show 6 < 1000; decide, ?_⟩
  refine ⟨_, rfl, p, A.disk, dx, _, rfl, upd_same, T.cl, T.nRun, by show 6 < 1000; decide, ?_⟩
  refine ⟨_, rfl, p, A.disk, dx, _, _, rfl, upd_same, T.cl, T.nStops, rfl, _, _, rfl, rfl, dx, _, upd_same, by show 6 < 1000; decide, ?_⟩
  have nH : H lu' = none := by
    cases e : H lu' with
    | none => rfl
    | some o =>
      by_cases z : lu' = ls
      · exact absurd z.symm nsl
      · rw [kp lu' o e fun _ => z] at nlu
        cases nlu
  have ntp : tp ≠ p := ne_of h2 h1 (by intro z; cases z)
  have ntl : tp ≠ lu' := ne_of_none h2 nH
  refine k _ lu' (.inr nH) ?_ ?_
  · rw [em]
    refine ⟨⟨dx, tp, st + 1, upd_same, ?_, by rw [hst]⟩, ?_, ⟨[], ?_, .nil⟩, nsl⟩
    · rw [upd_ne ntp, upd_ne ntp, upd_ne ntp, upd_ne ntl]
      exact kp.t.tup h2
    · rw [upd_ne nps.symm, upd_ne nps.symm, upd_ne nps.symm, upd_ne nsl]
      exact hls
    · rw [upd_ne npl.symm, upd_ne npl.symm, upd_ne npl.symm, upd_same]
  · have m1 : Kp (dF p ls lu) H G := kp.sub fun b z => .inr (.inl z)
    have g2 : upd G lu' (.lst []) p = _ := (upd_ne npl).trans g1
    exact ((((m1.andN nlu).andI g2 (.inl rfl)).andI upd_same (.inl rfl)).andI upd_same (.inl rfl))
theorem ok_dk5 (T : Txt K mg A) : ∃ fd, FnOk P w K mg base CX0 1 (A.dm 5) fd ["self", "picks"] (spDk5 A) ∧ Binds K fd ["self", "picks"] [] := by
  obtain ⟨fd, F⟩ := T.m5.fn
  refine ⟨fd, F.ok scDk5 (fun vs H Q E h => ?_) (fun cdv Ar outer s H vs Q E hr h => ?_), F.binds fun _ _ _ _ _ _ us hl => match us, hl with | [_, _], _ => rfl⟩
  · obtain ⟨p, ls, lu, m, b, bs, rfl, _⟩ := h
    rfl
  · obtain ⟨p, ls, lu, m, b, bs, rfl, D, Gm, hB, hbl, k⟩ := h
    obtain ⟨dx, tp, st, h1, h2, hst⟩ := D.ex
    obtain ⟨rs, h3, h4⟩ := D.uns
    have nps : p ≠ ls := ne_of h1 D.sure (by intro z; cases z)
    have npu : p ≠ lu := ne_of h1 h3 (by intro z; cases z)
    refine ⟨_, pss_cons (ps_if (pt_not (pt_val (pe_fld (pv 0) rfl))) (pss_one ps_retN) pss_nil)
      (pss_cons (ps_for PassesOwn.never rfl (pi_zipM (by rfl) T.zip (pa_cons (pe_fld (pv 0) rfl) (pa_cons (pv 1) pa_nil)))
          (pg_tup rfl (pgs_cons (pg_tup rfl (pgs_cons (pg_name (i := 2) scDk5.nd rfl (Or.inl rfl)) (pgs_cons (pg_name (i := 3) scDk5.nd rfl (Or.inl rfl)) pgs_nil))) (pgs_cons (pg_name (i := 4) scDk5.nd rfl (Or.inl rfl)) pgs_nil)))
          (pss_one (ps_if (pt_val (pv 4)) (pss_one (ps_asg (pv 3) (pg_sub (pe_fld (pv 0) rfl) (pv 2) set_list))) pss_nil)))
      (pss_cons (ps_fld (pv 0) (pe_lst pa_nil) rfl) (pss_cons (ps_fld (pv 0) pe_bl rfl) (pss_one (ps_fldaug (pv 0) pe_int in_add))))), ?_⟩
    refine ⟨_, rfl, p, A.disk, dx, _, _, rfl, h1, T.cl, T.nRun, l_run .., _, rfl, ?_⟩
    cases er : m.run with
    | false =>
      refine iteT ?_
      have em : m.stop bs = m := by
        unfold M.stop
        rw [er]
        rfl
      exact k H lu (.inl rfl) (by rw [em]; exact D) (Kp.refl _ _)
    | true =>
      refine iteF ?_
      have em : m.stop bs = ⟨putIf m.sure (m.pend.zip bs), [], m.left, m.picks, false, m.stops + 1⟩ := by
        unfold M.stop
        rw [er]
        rfl
      rw [er] at h1
      -- for (block, what), pick in zip(self.unsure, picks)
      refine ⟨_, rfl, p, A.disk, dx, _, _, rfl, h1, T.cl, T.nUns, l_uns .., _, rfl, ?_⟩
      have hq : ∀ {G : Hp}, Kp (fun b => b = ls) H G → SqL K G lu rs ∧ (SqL K G b (bs.map V.bl) ∨ SqT K G b (bs.map V.bl)) := fun {G} kp =>
        ⟨SqL.of (kp.t.lst h3 fun z => D.ne z.symm), hB.elim (fun e => .inl (SqL.of (kp.t.lst e hbl))) fun e => .inr (SqT.of (kp.t.tup e))⟩
      have key : ∀ (sq : Hp → Prop), (∀ {G : Hp}, Kp (fun b => b = ls) H G → sq G) → ∀ (tb : TS) (D' : Ends), (∀ (i : Nat) (q : Int × V) (c : Bool) (σ : L2.St) (G : Hp), m.pend[i]? = some q → bs[i]? = some c → (∃ o1 o2 o3, σ = [some (.ref p), some (.ref b), o1, o2, o3]) → Kp (fun b => b = ls) H G → G ls = some (.lst (putIf m.sure ((m.pend.zip bs).take i))) →
            ∀ (nx : L2.St → Hp → Prop), (∀ (σ' : L2.St) (G' : Hp), (∃ o1 o2 o3, σ' = [some (.ref p), some (.ref b), o1, o2, o3]) → Kp (fun b => b = ls) H G' → G' ls = some (.lst (putIf m.sure ((m.pend.zip bs).take (i + 1)))) → nx σ' G') →
            tb { D' with nx := nx, ct := nx, bk := D'.nx } [some (.ref p), some (.ref b), some (.int q.1), some q.2, some (.bl c)] G) →
          (∀ (σ : L2.St) (G : Hp), (∃ o1 o2 o3, σ = [some (.ref p), some (.ref b), o1, o2, o3]) → Kp (fun b => b = ls) H G → G ls = some (.lst (putIf m.sure (m.pend.zip bs))) → D'.nx σ G) →
          ∃ W : Nat → Nat → L2.St → Hp → Prop, (∃ m', W 0 m' (L2.start ["self", "picks", "block", "what", "pick"] [.ref p, .ref b]) H) ∧ ∀ i m' σ G, W i m' σ G →
            ((ItM K lu sq rs (bs.map V.bl)).stop i G ∧ D'.nx σ G) ∨ ((ItM K lu sq rs (bs.map V.bl)).go i G ∧ ∃ N : L2.St → Hp → Prop, (∀ σ' H', N σ' H' → ∃ m'', m'' < m' ∧ W (i + 1) m'' σ' H') ∧ ∀ v H', (ItM K lu sq rs (bs.map V.bl)).yld i G v H' →
              gTup K 2 (gCons (gTup K 2 (gCons (gName 2) (gCons (gName 3) gNil))) (gCons (gName 4) gNil)) v σ H' fun σ2 H2 => tb { D' with nx := N, ct := N, bk := D'.nx } σ2 H2) := by
        intro sq hsq tb D' hbody hend
        refine for_zipM (fun i σ G => (∃ o1 o2 o3, σ = [some (.ref p), some (.ref b), o1, o2, o3]) ∧ Kp (fun b => b = ls) H G ∧ G ls = some (.lst (putIf m.sure ((m.pend.zip bs).take i)))) ⟨⟨none, none, none, rfl⟩, Kp.refl _ _, by rw [List.take_zero]; exact D.sure⟩ (fun i σ G ⟨_, kp, _⟩ => ⟨(hq kp).1, hsq kp⟩) ?_ ?_
        · rintro i x y Tn σ G hx hy ⟨⟨o1, o2, o3, rfl⟩, kp, hls⟩ hT
          obtain ⟨q, hq1, t, rfl, ht⟩ := Paired.at h4 hx
          obtain ⟨c, hc, rfl⟩ : ∃ c, bs[i]? = some c ∧ y = V.bl c := by
            rw [List.getElem?_map] at hy
            cases e : bs[i]? with
            | none =>
              rw [e] at hy
              cases hy
            | some c =>
              rw [e] at hy
              exact ⟨c, rfl, (Option.some.inj hy).symm⟩
          have kn : Kp (fun b => b = ls) H (upd G Tn (.tup [.ref t, .bl c])) := kp.trans (Kp.new (F := No) hT) fun _ z => z.elim
          refine ⟨Tn, _, rfl, SqT.of upd_same, rfl, _, _, rfl, ⟨t, _, rfl, SqT.of (kn.t.tup ht), rfl, _, _, rfl, _, _, rfl, rfl, ?_⟩⟩
          refine ⟨_, _, rfl, rfl, ?_⟩
          refine hbody i q c [some (.ref p), some (.ref b), some (.int q.1), some q.2, some (.bl c)] _ hq1 hc ⟨_, _, _, rfl⟩ kn (by rw [upd_ne (ne_of_none hls hT)]; exact hls) _ fun σ' G' a1 a2 a3 => ⟨a1, a2, a3⟩
        · rintro σ G ⟨a1, a2, a3⟩
          refine hend σ G a1 a2 ?_
          have e : (m.pend.zip bs).take (min rs.length (bs.map V.bl).length) = m.pend.zip bs := by
            refine List.take_of_length_le ?_
            rw [List.length_zip, List.length_map, Paired.length h4]
            exact Nat.le_refl _
          rw [e] at a3
          exact a3
      refine ⟨lu, b, rs, bs.map V.bl, rfl, (hq (Kp.refl _ _)).1, ?_⟩
      rcases hB with e | e
      · refine .inl ⟨SqL.of e, key _ (fun {G} kp => SqL.of (kp.t.lst e hbl)) _ _ ?body ?fin⟩
        case body => exact stop_body h1 D.sure T Gm nps
        case fin => exact stop_fin h1 h2 h3 D T nps npu hst em k
      · refine .inr ⟨SqT.of e, key _ (fun {G} kp => SqT.of (kp.t.tup e)) _ _ ?body ?fin⟩
        case body => exact stop_body h1 D.sure T Gm nps
        case fin => exact stop_fin h1 h2 h3 D T nps npu hst em k
end
end K5

set_option Elab.async false
set_option linter.all false
set_option maxRecDepth 100000
set_option maxHeartbeats 1000000
namespace K5
open PySem PySem.Spec PyProof.Rows L2
section
variable {P : Program} {w : World} {K : PySem.W.Frag} {mg : Str → Option Value} {base : Heap} {A : Ad}
/-! ### again -/
theorem scDk6 : FnScope ["self"] ["self"] (defScope (sDk 6)) := ⟨rfl, rfl, rfl, by decide +kernel, rfl, by decide +kernel, by decide +kernel⟩
def spDk6 (A : Ad) : Sp := fun vs H Q _ => ∃ p ls lu m, vs = [.ref p] ∧ DiskAt A H p ls lu m ∧ ∀ G lu', H lu' = none → DiskAt A G p ls lu' m.again → Kp (dF p ls lu) H G → Q .non G
theorem ok_dk6 (T : Txt K mg A) : ∃ fd, FnOk P w K mg base CX0 1 (A.dm 6) fd ["self"] (spDk6 A) ∧ Binds K fd ["self"] [] := by
  obtain ⟨fd, F⟩ := T.m6.fn
  refine ⟨fd, F.ok scDk6 (fun vs H Q E h => ?_) (fun cdv Ar outer s H vs Q E hr h => ?_), F.binds fun _ _ _ _ _ _ us hl => match us, hl with | [_], _ => rfl⟩
  · obtain ⟨p, ls, lu, m, rfl, _⟩ := h
    rfl
  · obtain ⟨p, ls, lu, m, rfl, D, k⟩ := h
    obtain ⟨dx, tp, st, h1, h2, hst⟩ := D.ex
    have nps : p ≠ ls := ne_of h1 D.sure (by intro z; cases z)
    refine ⟨_, pss_cons (ps_fld (pv 0) (pe_lst pa_nil) rfl) (pss_cons (ps_fld (pv 0) pe_non rfl) (pss_cons (ps_fld (pv 0) (pe_tup pa_nil) rfl) (pss_one (ps_fld (pv 0) pe_bl rfl)))), ?_⟩
    refine ⟨Nat.zero_le _, fun l nl => ?_⟩
    have npl : p ≠ l := ne_of_none h1 nl
    refine ⟨_, rfl, p, A.disk, dx, _, rfl, by rw [upd_ne npl]; exact h1, T.cl, T.nUns, by show 6 < 1000; decide, _, rfl, p, A.disk, dx, _, rfl, upd_same, T.cl, T.nLeft, by show 6 < 1000; decide, ?_⟩
    refine ⟨Nat.zero_le _, fun t nt0 => ?_⟩
    obtain ⟨npt, nt⟩ := upd_none nt0
    obtain ⟨_, nt⟩ := upd_none nt
    obtain ⟨nlt, nt⟩ := upd_none nt
    refine ⟨_, rfl, p, A.disk, dx, _, rfl, by rw [upd_ne npt.symm, upd_same], T.cl, T.nPicks, by show 6 < 1000; decide, _, rfl, p, A.disk, dx, _, rfl, upd_same, T.cl, T.nRun, by show 6 < 1000; decide, ?_⟩
    refine k _ l nl ⟨⟨dx, t, st, upd_same, by rw [upd_ne npt, upd_ne npt, upd_same]; rfl, hst⟩, ?_, ⟨[], ?_, .nil⟩, ne_of_none D.sure nl⟩ ?_
    · rw [upd_ne nps.symm, upd_ne nps.symm, upd_ne (ne_of_none D.sure nt), upd_ne nps.symm, upd_ne nps.symm, upd_ne (ne_of_none D.sure nl)]
      exact D.sure
    · rw [upd_ne npl.symm, upd_ne npl.symm, upd_ne nlt.symm, upd_ne npl.symm, upd_ne npl.symm, upd_same]
    · exact ((((((Kp.new (F := dF p ls lu) nl).andI (by rw [upd_ne npl]; exact h1) (.inl rfl)).andI upd_same (.inl rfl)).andN nt0).andI (by rw [upd_ne npt.symm, upd_same]) (.inl rfl)).andI upd_same (.inl rfl))
/-! ### settled -/
theorem scDk7 : FnScope ["self"] ["self"] (defScope (sDk 7)) := ⟨rfl, rfl, rfl, by decide +kernel, rfl, by decide +kernel, by decide +kernel⟩
def spDk7 (A : Ad) : Sp := fun vs H Q _ => ∃ p ls lu m, vs = [.ref p] ∧ DiskAt A H p ls lu m ∧ ∀ l, H l = none → Q (.ref l) (upd H l (.lst m.sure))
theorem ok_dk7 (T : Txt K mg A) : ∃ fd, FnOk P w K mg base CX0 1 (A.dm 7) fd ["self"] (spDk7 A) ∧ Binds K fd ["self"] [] := by
  obtain ⟨fd, F⟩ := T.m7.fn
  refine ⟨fd, F.ok scDk7 (fun vs H Q E h => ?_) (fun cdv Ar outer s H vs Q E hr h => ?_), F.binds fun _ _ _ _ _ _ us hl => match us, hl with | [_], _ => rfl⟩
  · obtain ⟨p, ls, lu, m, rfl, _⟩ := h
    rfl
  · obtain ⟨p, ls, lu, m, rfl, D, k⟩ := h
    obtain ⟨dx, tp, st, h1, h2, hst⟩ := D.ex
    refine ⟨_, pss_one (ps_ret (pe_callTy call_list_of (by rfl) T.list (by decide +kernel) (pa_cons (pe_fld (pv 0) rfl) pa_nil))), ?_⟩
    exact ⟨_, rfl, p, A.disk, dx, _, _, rfl, h1, T.cl, T.nSure, l_sure .., ls, _, rfl, .inl (SqL.of D.sure), k⟩
/-! ### count_deed -/
theorem scDk9 : FnScope ["self"] ["self"] (defScope (sDk 9)) := ⟨rfl, rfl, rfl, by decide +kernel, rfl, by decide +kernel, by decide +kernel⟩
def spDk9 (A : Ad) : Sp := fun vs H Q E => ∃ p ls lu m, vs = [.ref p] ∧ DiskAt A H p ls lu m ∧ Good m ∧
  ∀ G lu', (lu' = lu ∨ H lu' = none) → DiskAt A G p ls lu' m.count.2 → Kp (dF p ls lu) H G → (m.count.1 = true → lu' = lu → Q .non G) ∧ (m.count.1 = false → E (.ref A.stopped) none G)
theorem ok_dk9 (T : Txt K mg A) : ∃ fd, FnOk P w K mg base (L2N.CX P w) 2 (A.dm 9) fd ["self"] (spDk9 A) ∧ Binds K fd ["self"] [] := by
  obtain ⟨fd, F⟩ := T.m9.fn
  obtain ⟨fd8, G8, b8⟩ := ok_dk8 (P := P) (w := w) (base := base) T
  obtain ⟨fd5, G5, b5⟩ := ok_dk5 (P := P) (w := w) (base := base) T
  refine ⟨fd, okN F scDk9 (fun vs H Q E h => ?_) (fun cdv Ar outer s H vs Q E hr h => ?_), F.binds fun _ _ _ _ _ _ us hl => match us, hl with | [_], _ => rfl⟩
  · obtain ⟨p, ls, lu, m, rfl, _⟩ := h
    rfl
  · obtain ⟨p, ls, lu, m, rfl, D, Gm, k⟩ := h
    obtain ⟨dx, tp, st, h1, h2, hst⟩ := D.ex
    obtain ⟨rs, h3, h4⟩ := D.uns
    have tk : L2N.Takes (cxOf (L2N.CX P w) P w K mg base ["self"] "Disk.count_deed" (defScope (sDk 9)) (A.dm 9) cdv Ar outer s H E) (fun cls d _ G => E cls d G) := L2N.takes_of rfl rfl rfl rfl
    refine ⟨_, pss_cons (ps_expr (pe_meth0 (E := E) (pv 0) T.cl T.m8.me G8 hr b8 .nil (L2N.passes_call tk fun _ _ _ _ h => h)))
      (pss_cons (ps_if (pt_cmp (pc_isN (pe_fld (pv 0) rfl))) (pss_one ps_retN) pss_nil)
      (pss_cons (ps_if (pt_cmpR op_le (pe_fld (pv 0) rfl) pe_int (nomark _))
        (pss_cons (ps_expr (pe_meth (pv 0) T.cl T.m5.me G5 hr b5 .nil pass0 (pa_cons (pe_fld (pv 0) rfl) pa_nil)))
        (pss_one (L2N.ps_raise rfl tk (L2N.pmk_own PySem.F.excBase_ValueError T.stopped.ex T.stopped.at_ T.stopped.kp (raises_own T.stopped.sb T.stopped.ty) rfl)))) pss_nil)
      (pss_one (ps_fldaug (pv 0) pe_int in_sub)))), ?_⟩
    refine ⟨_, rfl, p, dx, _, rfl, h1, rfl, p, ls, lu, m, rfl, D, fun er => ?_, fun er => ?_⟩
    · -- it runs
      refine ⟨_, rfl, p, A.disk, dx, _, _, rfl, h1, T.cl, T.nLeft, l_left .., _, rfl, ?_⟩
      cases el : m.left with
      | none =>
        have ec : m.count = (true, m) := by unfold M.count; rw [er, el]; rfl
        rw [ec] at k
        exact iteT ((k H lu (.inl rfl) D (Kp.refl _ _)).1 rfl rfl)
      | some l =>
        rw [el] at h1
        refine iteF ⟨_, rfl, p, A.disk, dx, _, _, rfl, h1, T.cl, T.nLeft, l_left .., _, _, rfl, rfl, _, rfl, ?_⟩
        refine ite2 (fun hle => ?_) (fun hgt => ?_)
        · have hle : l ≤ 0 := by simpa using hle
          have ec : m.count = (false, m.stop m.picks) := by
            unfold M.count
            rw [er, el]
            show (if l ≤ 0 then _ else _) = _
            rw [if_pos hle]
          rw [ec] at k
          refine ⟨_, rfl, p, dx, _, rfl, h1, rfl, _, rfl, p, A.disk, dx, _, _, rfl, h1, T.cl, T.nPicks, l_picks .., ?_⟩
          refine ⟨p, ls, lu, m, tp, m.picks, rfl, D, Gm, .inr h2, ne_of h2 D.sure (by intro z; cases z), fun G lu' hl DG kp => ?_⟩
          exact (k G lu' hl DG kp).2 rfl
        · have hgt : ¬ l ≤ 0 := by simpa using hgt
          have ec : m.count = (true, ⟨m.sure, m.pend, some (l - 1), m.picks, m.run, m.stops⟩) := by
            unfold M.count
            rw [er, el]
            show (if l ≤ 0 then _ else _) = _
            rw [if_neg hgt]
          rw [ec] at k
          refine ⟨_, rfl, p, A.disk, dx, _, _, rfl, h1, T.cl, T.nLeft, rfl, _, _, rfl, rfl, dx, _, h1, by show 6 < 1000; decide, ?_⟩
          have kp := Kp.updI (F := dF p ls lu) (o' := .ins A.disk dx (putF "deeds_left" (.int (l - 1)) (dfl ls lu (optV (some l)) tp m.run st))) h1 (.inl rfl)
          have ntp : tp ≠ p := ne_of h2 h1 (by intro z; cases z)
          have nps : ls ≠ p := ne_of D.sure h1 (by intro z; cases z)
          have npu : lu ≠ p := ne_of h3 h1 (by intro z; cases z)
          exact (k _ lu (.inl rfl) ⟨⟨dx, tp, st, upd_same, by rw [upd_ne ntp]; exact h2, hst⟩, by rw [upd_ne nps]; exact D.sure, ⟨rs, by rw [upd_ne npu]; exact h3, h4.kt kp.t⟩, D.ne⟩ kp).1 rfl rfl
    · have ec : m.count = (false, m) := by unfold M.count; rw [er]; rfl
      rw [ec] at k
      exact (k H lu (.inl rfl) D (Kp.refl _ _)).2 rfl
end
end K5

set_option Elab.async false
set_option linter.all false
set_option maxRecDepth 100000
set_option maxHeartbeats 1000000
namespace K5
open PySem PySem.Spec PyProof.Rows L2
def M.get (m : M) (n : Int) : V := m.pend.foldl (fun f q => if q.1 = n then q.2 else f) (m.sure.getD n.toNat .non)
theorem Paired.at2 {α β : Type} {R : α → β → Prop} {xs : List α} {ys : List β} (h : Paired R xs ys) {i : Nat} {x : α} (e : xs[i]? = some x) : ∃ y, ys[i]? = some y ∧ R x y := Paired.at h e
theorem pairedApp {α β : Type} {R : α → β → Prop} : ∀ {xs zs : List α} {ys ws : List β}, PySem.Paired R xs ys → PySem.Paired R zs ws → PySem.Paired R (xs ++ zs) (ys ++ ws)
  | _, _, _, _, .nil, h => h
  | _, _, _, _, .cons r t, h => .cons r (pairedApp t h)
theorem count_true {m : M} (h : m.count.1 = true) : m.count.2.sure = m.sure ∧ m.count.2.pend = m.pend ∧ m.count.2.run = true ∧ (m.count.2.left = m.left ∨ ∃ l, 0 < l ∧ m.left = some l ∧ m.count.2.left = some (l - 1)) ∧ m.count.2.picks = m.picks := by
  unfold M.count at h ⊢
  cases e : m.run with
  | false =>
    rw [e] at h
    cases h
  | true =>
    rw [e] at h
    rw [if_pos rfl] at h ⊢
    cases el : m.left with
    | none => exact ⟨rfl, rfl, e, .inl el, rfl⟩
    | some l =>
      rw [el] at h
      by_cases hl : l ≤ 0
      · dsimp only at h
        rw [if_pos hl] at h
        cases h
      · dsimp only
        rw [if_neg hl]
        exact ⟨rfl, rfl, rfl, .inr ⟨l, by omega, rfl, rfl⟩, rfl⟩
theorem Good.count {m : M} (g : Good m) (h : m.count.1 = true) : Good m.count.2 := by
  obtain ⟨e1, e2, e3, e4, _⟩ := count_true h
  refine ⟨by rw [e1]; exact g.len, by rw [e2]; exact g.blk, by rw [e2]; exact g.few, (fun z => by rw [e3] at z; cases z), fun l hl => ?_⟩
  rcases e4 with e | ⟨l', h0, h1, h2⟩
  · exact g.nat l (by rw [← e]; exact hl)
  · rw [h2] at hl
    cases hl
    omega
section
variable {P : Program} {w : World} {K : PySem.W.Frag} {mg : Str → Option Value} {base : Heap} {A : Ad}
/-! ### settle -/
theorem scDk2 : FnScope ["self", "block", "what"] ["self"] (defScope (sDk 2)) := ⟨rfl, rfl, rfl, by decide +kernel, rfl, by decide +kernel, by decide +kernel⟩
def spDk2 (A : Ad) : Sp := fun vs H Q E => ∃ p ls lu m, vs = [.ref p] ∧ DiskAt A H p ls lu m ∧ Good m ∧ ∀ G lu', (lu' = lu ∨ H lu' = none) → Kp (dF p ls lu) H G →
  (m.count.1 = true → DiskAt A G p ls lu' m.count.2.settle → Q .non G) ∧ (m.count.1 = false → DiskAt A G p ls lu' m.count.2 → E (.ref A.stopped) none G)
theorem ok_dk2 (T : Txt K mg A) : ∃ fd, FnOk P w K mg base (L2N.CX P w) 3 (A.dm 2) fd ["self"] (spDk2 A) ∧ Binds K fd ["self"] [] := by
  obtain ⟨fd, F⟩ := T.m2.fn
  obtain ⟨fd9, G9, b9⟩ := ok_dk9 (P := P) (w := w) (base := base) T
  refine ⟨fd, okN F scDk2 (fun vs H Q E h => ?_) (fun cdv Ar outer s H vs Q E hr h => ?_), F.binds fun _ _ _ _ _ _ us hl => match us, hl with | [_], _ => rfl⟩
  · obtain ⟨p, ls, lu, m, rfl, _⟩ := h
    rfl
  · obtain ⟨p, ls, lu, m, rfl, D, Gm, k⟩ := h
    have tk : L2N.Takes (cxOf (L2N.CX P w) P w K mg base ["self", "block", "what"] "Disk.settle" (defScope (sDk 2)) (A.dm 2) cdv Ar outer s H E) (fun cls d _ G => E cls d G) := L2N.takes_of rfl rfl rfl rfl
    refine ⟨_, pss_cons (ps_expr (pe_meth0 (E := E) (pv 0) T.cl T.m9.me G9 hr b9 .nil (L2N.passes_call tk fun _ _ _ _ h => h)))
      (PSs.nox (pss_cons (ps_for PassesOwn.never rfl (pi_list (pe_fld (pv 0) rfl)) (pg_tup rfl (pgs_cons (pg_name (i := 1) scDk2.nd rfl (Or.inl rfl)) (pgs_cons (pg_name (i := 2) scDk2.nd rfl (Or.inl rfl)) pgs_nil)))
          (pss_one (ps_asg (pv 2) (pg_sub (pe_fld (pv 0) rfl) (pv 1) set_list))))
        (pss_one (ps_fld (pv 0) (pe_lst pa_nil) rfl)))), ?_⟩
    obtain ⟨dx0, tp0, st0, h10, _, hst0⟩ := D.ex
    refine ⟨_, rfl, p, dx0, _, rfl, h10, rfl, p, ls, lu, m, rfl, D, Gm, fun G lu' hlu DG kp => ⟨fun c e => ?_, fun c => (k G lu' hlu kp).2 c DG⟩⟩
    subst e
    obtain ⟨e1, e2, e3, _, _⟩ := count_true c
    have Gg := Gm.count c
    obtain ⟨dx, tp, st, h1, h2, hst⟩ := DG.ex
    obtain ⟨rs, h3, h4⟩ := DG.uns
    have nps : p ≠ ls := ne_of h1 DG.sure (by intro z; cases z)
    have npu : p ≠ lu' := ne_of h1 h3 (by intro z; cases z)
    refine ⟨_, rfl, p, A.disk, dx, _, _, rfl, h1, T.cl, T.nUns, l_uns .., lu', rfl, ⟨_, SqL.of h3⟩, for_list (K := K) (a := lu') (xs := rs) (fun i σ J => (∃ o1 o2, σ = [some (.ref p), o1, o2]) ∧ Kp (fun b => b = ls) G J ∧ J ls = some (.lst (putAll m.count.2.sure (m.count.2.pend.take i))))
      ⟨⟨none, none, rfl⟩, Kp.refl _ _, by rw [List.take_zero]; exact DG.sure⟩ (fun i σ J _ ⟨_, kj, _⟩ => SqL.of (kj.t.lst h3 fun z => DG.ne z.symm)) ?_ ?_⟩
    · rintro i x σ J hx ⟨⟨o1, o2, rfl⟩, kj, hls⟩
      obtain ⟨q, hq, t, rfl, ht⟩ := Paired.at h4 hx
      refine ⟨t, _, rfl, SqT.of (kj.t.tup ht), rfl, _, _, rfl, _, _, rfl, rfl, ?_⟩
      have hr := Gg.blk q (List.mem_of_getElem? hq)
      have hl : (putAll m.count.2.sure (m.count.2.pend.take i)).length = 35 := by rw [putAll_len, Gg.len]
      refine ⟨_, rfl, _, rfl, p, A.disk, dx, _, _, rfl, kj.t.ins h1 nps, T.cl, T.nSure, l_sure .., _, rfl, ls, _, q.1, q.1.toNat, rfl, rfl, hls, ixN_in hr.1 (by rw [hl]; omega), ?_⟩
      refine ⟨⟨_, _, rfl⟩, kj.andL hls rfl, ?_⟩
      rw [upd_same, take_succ_of hq, putAll_app]
      rfl
    · rintro σ J ⟨⟨o1, o2, rfl⟩, kj, hls⟩
      rw [List.take_of_length_le (Nat.le_of_eq (Paired.length h4).symm)] at hls
      have j1 := kj.t.ins h1 nps
      refine ⟨Nat.zero_le _, fun l nl => ?_⟩
      have npl : p ≠ l := ne_of_none j1 nl
      have nlH : H l = none := kp.free (kj.free nl fun z => by rw [z, hls] at nl; cases nl) fun z => by
        rcases z with z | z | z
        · exact absurd z.symm npl
        · rw [z, hls] at nl
          cases nl
        · subst z
          rw [kj.t.lst h3 fun z => DG.ne z.symm] at nl
          cases nl
      refine ⟨_, rfl, p, A.disk, dx, _, rfl, by rw [upd_ne npl]; exact j1, T.cl, T.nUns, by show 6 < 1000; decide, ?_⟩
      have kn : Kp (dF p ls lu') G _ := ((kj.sub (F' := dF p ls lu') fun b z => .inr (.inl z)).andN (o' := .lst []) nl).andI (o' := .ins A.disk dx (putF "unsure" (.ref l) (dfl ls lu' (optV m.count.2.left) tp m.count.2.run st))) (by rw [upd_ne npl]; exact j1) (.inl rfl)
      refine (k _ l (.inr nlH) (kp.trans kn fun b z => .inl z)).1 c ⟨⟨dx, tp, st, upd_same, kn.t.tup h2, hst⟩, ?_, ⟨[], ?_, .nil⟩, ne_of_none hls nl⟩
      · rw [upd_ne nps.symm, upd_ne (ne_of_none hls nl)]
        exact hls
      · rw [upd_ne npl.symm, upd_same]
/-! ### write -/
theorem scDk1 : FnScope ["self", "block", "what"] ["self", "block", "what"] (defScope (sDk 1)) := ⟨rfl, rfl, rfl, by decide +kernel, rfl, by decide +kernel, by decide +kernel⟩
def Fits (n : Int) (x : Nat) : Prop := 0 ≤ n ∧ n ≤ 34 ∧ x ≤ 40
def spDk1 (A : Ad) (K : PySem.W.Frag) : Sp := fun vs H Q E => ∃ p ls lu m n v d x z, vs = [.ref p, .int n, v] ∧ DiskAt A H p ls lu m ∧ Good m ∧ m.pend.length < 1000 ∧ DatK K H d v x z ∧ z ≤ 10000 ∧ ∀ G lu', (lu' = lu ∨ H lu' = none) → Kp (dF p ls lu) H G →
  (¬ Fits n x → lu' = lu → DiskAt A G p ls lu m → E (.ref A.bad) none G) ∧ (Fits n x → m.count.1 = true → lu' = lu → DiskAt A G p ls lu (m.count.2.write n v) → Q .non G) ∧ (Fits n x → m.count.1 = false → DiskAt A G p ls lu' m.count.2 → E (.ref A.stopped) none G)
theorem ok_dk1 (T : Txt K mg A) : ∃ fd, FnOk P w K mg base (L2N.CX P w) 3 (A.dm 1) fd ["self", "block", "what"] (spDk1 A K) ∧ Binds K fd ["self", "block", "what"] [] := by
  obtain ⟨fd, F⟩ := T.m1.fn
  obtain ⟨fd9, G9, b9⟩ := ok_dk9 (P := P) (w := w) (base := base) T
  obtain ⟨fdC, GC, bC⟩ := ok_check (P := P) (w := w) (base := base) T
  obtain ⟨fdH, GH, bH⟩ := ok_heavy (P := P) (w := w) (base := base) T
  refine ⟨fd, okN F scDk1 (fun vs H Q E h => ?_) (fun cdv Ar outer s H vs Q E hr h => ?_), F.binds fun _ _ _ _ _ _ us hl => match us, hl with | [_, _, _], _ => rfl⟩
  · obtain ⟨p, ls, lu, m, n, v, d, x, z, rfl, _⟩ := h
    rfl
  · obtain ⟨p, ls, lu, m, n, v, d, x, z, rfl, D, Gm, hfew, hd, hz, k⟩ := h
    have tk : L2N.Takes (cxOf (L2N.CX P w) P w K mg base ["self", "block", "what"] "Disk.write" (defScope (sDk 1)) (A.dm 1) cdv Ar outer s H E) (fun cls d _ G => E cls d G) := L2N.takes_of rfl rfl rfl rfl
    refine ⟨_, pss_cons (ps_expr (pe_call (E := E) GC hr rfl T.check.at_ T.check.kp bC .nil (L2N.passes_call tk fun _ _ _ _ h => h) (pa_cons (pv 1) pa_nil)))
      (pss_cons (ps_if (pt_val (pe_call GH (hr.mono (by decide)) rfl T.heavy.at_ T.heavy.kp bH .nil pass0 (pa_cons (pv 2) pa_nil)))
        (pss_one (L2N.ps_raise rfl tk (L2N.pmk_own PySem.F.excBase_ValueError T.bad.ex T.bad.at_ T.bad.kp (raises_own T.bad.sb T.bad.ty) rfl))) pss_nil)
      (pss_cons (ps_expr (pe_meth0 (E := E) (pv 0) T.cl T.m9.me G9 hr b9 .nil (L2N.passes_call tk fun _ _ _ _ h => h)))
      (pss_one (ps_expr (pe_bm PySem.F.plainAttrs_list PySem.F.slot_list_append PySem.F.type_list_append mt_append (pe_fld (pv 0) rfl) (pa_cons (pe_tup (pa_cons (pv 1) (pa_cons (pv 2) pa_nil))) pa_nil)))))), ?_⟩
    refine ⟨_, rfl, n, rfl, fun h0 h34 => ?_, fun hn => (k H lu (.inl rfl) (Kp.refl _ _)).1 (fun f => hn ⟨f.1, f.2.1⟩) rfl D⟩
    refine ⟨_, rfl, v, d, x, z, rfl, hd, hz, fun G kG => ⟨_, rfl, ?_⟩⟩
    have DG : DiskAt A G p ls lu m := D.kt kG.t fun b z => z.elim
    refine ite2 (fun hx => ?_) (fun hx => ?_)
    · have hx : (40 : Int) < x := by simpa using hx
      exact (k G lu (.inl rfl) (kG.sub fun _ z => z.elim)).1 (fun f => by have := f.2.2; omega) rfl DG
    · have hx : ¬ (40 : Int) < x := by simpa using hx
      have fit : Fits n x := ⟨h0, h34, by omega⟩
      obtain ⟨dx0, tp0, st0, h10, _, hst0⟩ := DG.ex
      refine ⟨_, rfl, p, dx0, _, rfl, h10, rfl, p, ls, lu, m, rfl, DG, Gm, fun J lu' hlu DJ kJ => ?_⟩
      have kHJ : Kp (dF p ls lu) H J := (kG.sub fun _ z => z.elim).trans kJ fun b z => .inl z
      have hlu2 : lu' = lu ∨ H lu' = none := hlu.imp id fun e => kG.free e fun z => z.elim
      refine ⟨fun c e => ?_, fun c => (k J lu' hlu2 kHJ).2.2 fit c DJ⟩
      subst e
      obtain ⟨e1, e2, e3, _, _⟩ := count_true c
      obtain ⟨dx, tp, st, h1, h2, hst⟩ := DJ.ex
      obtain ⟨rs, h3, h4⟩ := DJ.uns
      have npu : p ≠ lu' := ne_of h1 h3 (by intro z; cases z)
      have hlr : rs.length = m.pend.length := by rw [← e2]; exact Paired.length h4
      refine ⟨_, rfl, p, A.disk, dx, _, _, rfl, h1, T.cl, T.nUns, l_uns .., .inl ⟨rfl, _, SqL.of h3⟩, _, rfl, _, rfl, sz 2 (by decide), fun t nt => ?_⟩
      have nlt : lu' ≠ t := ne_of_none h3 nt
      refine ⟨lu', rs, _, rfl, rfl, by rw [upd_ne nlt]; exact h3, Nat.lt_of_lt_of_le (show rs.length < 1000 by omega) (sz _ (by decide)), ?_⟩
      have kn : Kp (dF p ls lu') J _ := (Kp.new (F := dF p ls lu') (o := .tup [.int n, v]) nt).andL (o' := .lst (rs ++ [.ref t])) (by rw [upd_ne nlt]; exact h3) (.inr (.inr rfl))
      refine (k _ lu' (.inl rfl) (kHJ.trans kn fun b z => .inl z)).2.1 fit c rfl ⟨⟨dx, tp, st, ?_, kn.t.tup h2, hst⟩, ?_, ⟨rs ++ [.ref t], upd_same, ?_⟩, DJ.ne⟩
      · rw [upd_ne npu, upd_ne (ne_of_none h1 nt)]
        exact h1
      · rw [upd_ne DJ.ne, upd_ne (ne_of_none DJ.sure nt)]
        exact DJ.sure
      · exact pairedApp (h4.kt kn.t) (.cons ⟨t, rfl, by rw [upd_ne nlt.symm, upd_same]⟩ .nil)
end
end K5

set_option Elab.async false
set_option linter.all false
set_option maxRecDepth 100000
set_option maxHeartbeats 1000000
namespace K5
open PySem PySem.Spec PyProof.Rows L2
section
variable {P : Program} {w : World} {K : PySem.W.Frag} {mg : Str → Option Value} {base : Heap} {A : Ad}
/-! ### read -/
theorem scDk3 : FnScope ["self", "block", "found", "place", "what"] ["self", "block"] (defScope (sDk 3)) := ⟨rfl, rfl, rfl, by decide +kernel, rfl, by decide +kernel, by decide +kernel⟩
def spDk3 (A : Ad) : Sp := fun vs H Q E => ∃ p ls lu m n, vs = [.ref p, .int n] ∧ DiskAt A H p ls lu m ∧ Good m ∧ ∀ G, Kp No H G →
  (¬ (0 ≤ n ∧ n ≤ 34) → E (.ref A.bad) none G) ∧ (0 ≤ n → n ≤ 34 → m.run = false → E (.ref A.stopped) none G) ∧ (0 ≤ n → n ≤ 34 → m.run = true → Q (m.get n) G)
theorem ok_dk3 (T : Txt K mg A) : ∃ fd, FnOk P w K mg base (L2N.CX P w) 3 (A.dm 3) fd ["self", "block"] (spDk3 A) ∧ Binds K fd ["self", "block"] [] := by
  obtain ⟨fd, F⟩ := T.m3.fn
  obtain ⟨fd8, G8, b8⟩ := ok_dk8 (P := P) (w := w) (base := base) T
  obtain ⟨fdC, GC, bC⟩ := ok_check (P := P) (w := w) (base := base) T
  refine ⟨fd, okN F scDk3 (fun vs H Q E h => ?_) (fun cdv Ar outer s H vs Q E hr h => ?_), F.binds fun _ _ _ _ _ _ us hl => match us, hl with | [_, _], _ => rfl⟩
  · obtain ⟨p, ls, lu, m, n, rfl, _⟩ := h
    rfl
  · obtain ⟨p, ls, lu, m, n, rfl, D, Gm, k⟩ := h
    have tk : L2N.Takes (cxOf (L2N.CX P w) P w K mg base ["self", "block", "found", "place", "what"] "Disk.read" (defScope (sDk 3)) (A.dm 3) cdv Ar outer s H E) (fun cls d _ G => E cls d G) := L2N.takes_of rfl rfl rfl rfl
    refine ⟨_, pss_cons (ps_expr (pe_call (E := E) GC hr rfl T.check.at_ T.check.kp bC .nil (L2N.passes_call tk fun _ _ _ _ h => h) (pa_cons (pv 1) pa_nil)))
      (pss_cons (ps_expr (pe_meth0 (E := E) (pv 0) T.cl T.m8.me G8 (hr.mono (by decide)) b8 .nil (L2N.passes_call tk fun _ _ _ _ h => h)))
      (PSs.nox (pss_cons (ps_set (i := 2) scDk3.nd rfl (Or.inl rfl) (pe_ix ix_list (pe_fld (pv 0) rfl) (pv 1) (fun _ _ => rfl)))
      (pss_cons (ps_for PassesOwn.never rfl (pi_list (pe_fld (pv 0) rfl)) (pg_tup rfl (pgs_cons (pg_name (i := 3) scDk3.nd rfl (Or.inl rfl)) (pgs_cons (pg_name (i := 4) scDk3.nd rfl (Or.inl rfl)) pgs_nil)))
        (pss_one (ps_if (pt_cmpR op_eq (pv 3) (pv 1) (nomark _)) (pss_one (ps_set (i := 2) scDk3.nd rfl (Or.inl rfl) (pv 4))) pss_nil)))
      (pss_one (ps_ret (pv 2))))))), ?_⟩
    obtain ⟨dx, tp, st, h1, h2, hst⟩ := D.ex
    obtain ⟨rs, h3, h4⟩ := D.uns
    refine ⟨_, rfl, n, rfl, fun h0 h34 => ?_, fun hn => (k H (Kp.refl _ _)).1 hn⟩
    refine ⟨_, rfl, p, dx, _, rfl, h1, rfl, p, ls, lu, m, rfl, D, fun er => ?_, fun er => (k H (Kp.refl _ _)).2.1 h0 h34 er⟩
    have hx : m.sure[n.toNat]? = some (m.sure.getD n.toNat .non) := by
      rw [List.getD_eq_getElem?_getD, List.getElem?_eq_getElem (by rw [Gm.len]; omega)]
      rfl
    refine ⟨_, rfl, p, A.disk, dx, _, _, rfl, h1, T.cl, T.nSure, l_sure .., _, rfl, ls, m.sure, n, m.sure.getD n.toNat .non, rfl, rfl, SqL.of D.sure, by unfold atI; rw [ixN_in h0 (by rw [Gm.len]; omega)]; exact hx, ?_⟩
    refine ⟨_, rfl, p, A.disk, dx, _, _, rfl, h1, T.cl, T.nUns, l_uns .., lu, rfl, ⟨_, SqL.of h3⟩, for_list (K := K) (a := lu) (xs := rs) (fun i σ J => J = H ∧ ∃ o1 o2, σ = [some (.ref p), some (.int n), some ((m.pend.take i).foldl (fun f q => if q.1 = n then q.2 else f) (m.sure.getD n.toNat .non)), o1, o2])
      ⟨rfl, none, none, rfl⟩ (fun i σ J _ ⟨e, _⟩ => by rw [e]; exact SqL.of h3) ?_ ?_⟩
    · rintro i x σ J hxi ⟨rfl, o1, o2, rfl⟩
      obtain ⟨q, hq, t, rfl, ht⟩ := Paired.at h4 hxi
      refine ⟨t, _, rfl, SqT.of ht, rfl, _, _, rfl, _, _, rfl, rfl, _, rfl, _, rfl, rfl, _, rfl, ?_⟩
      have e1 : (m.pend.take (i + 1)).foldl (fun f q => if q.1 = n then q.2 else f) (m.sure.getD n.toNat .non) = if q.1 = n then q.2 else (m.pend.take i).foldl (fun f q => if q.1 = n then q.2 else f) (m.sure.getD n.toNat .non) := by
        rw [take_succ_of hq, List.foldl_append]
        rfl
      refine ite2 (fun he => ?_) (fun he => ?_)
      · have he : q.1 = n := by simpa using he
        refine ⟨_, rfl, rfl, some (.int q.1), some q.2, ?_⟩
        rw [e1, if_pos he]
        rfl
      · have he : ¬ q.1 = n := by simpa using he
        refine ⟨rfl, some (.int q.1), some q.2, ?_⟩
        rw [e1, if_neg he]
        rfl
    · rintro σ J ⟨rfl, o1, o2, rfl⟩
      rw [List.take_of_length_le (Nat.le_of_eq (Paired.length h4).symm)]
      exact ⟨_, rfl, (k J (Kp.refl _ _)).2.2 h0 h34 er⟩
end
end K5

set_option Elab.async false
set_option linter.all false
set_option maxRecDepth 100000
namespace S02
open PySem PySem.Spec PyProof.Rows L2 LamX K5 SupX
/-- a def of the module; its function object's code is at c -/
structure Df (K : PySem.W.Frag) (mg : Str → Option Value) (x : Str) (st : Stmt) (f : Addr) : Prop where
  fn : ∃ fd, Fun K x x st f fd
  at_ : mg x = some (.ref f)
theorem Df.kp {K : PySem.W.Frag} {mg : Str → Option Value} {x : Str} {st : Stmt} {f : Addr} (d : Df K mg x st f) : PySem.W.keepIn K (.ref f) = true := by
  obtain ⟨_, F⟩ := d.fn
  exact F.kp
/-- a function object whose code object is known -/
structure FnC (K : PySem.W.Frag) (x qual : Str) (st : Stmt) (f c : Addr) : Prop where
  ex : ∃ (oc : Value) (od : Option Addr) (kV doc pm : Value) (an : Option Addr) (ct : Value) (osl : Array (Option Value)), K.lookup f = some ⟨oc, od, .func (PySem.W.fnOf x qual (defArgs st) (defBody st) (defScope st) .none kV doc pm an (.ref c) ct), osl⟩ ∧ PySem.W.codeIn K (.ref c) qual = true
  kp : PySem.W.keepIn K (.ref f) = true
theorem FnC.fn {K : PySem.W.Frag} {x qual : Str} {st : Stmt} {f c : Addr} (d : FnC K x qual st f c) : ∃ fd, Fun K x qual st f fd := by
  obtain ⟨oc, od, kV, doc, pm, an, ct, osl, lk, hcd⟩ := d.ex
  exact ⟨_, fun_mk lk hcd d.kp⟩
/-- a method of the class at C -/
structure Md (K : PySem.W.Frag) (C : Addr) (m qual : Str) (st : Stmt) (f : Addr) : Prop where
  fn : ∃ fd, Fun K m qual st f fd
  me : Meth K C m f
/-- an exception class of the program, without an __init__ of its own -/
structure Xc (K : PySem.W.Frag) (mg : Str → Option Value) (x : Str) (C : Addr) : Prop where
  at_ : mg x = some (.ref C)
  ex : PySem.W.excIn K C [.type "ValueError", .type "Exception", .type "BaseException", .type "object"] "ValueError.__new__" = true
  kp : PySem.W.keepIn K (.ref C) = true
  sb : PySem.W.subIn K (.ref C) (.type "BaseException") = some true
  ty : PySem.W.typeIn K (.ref C) = some (.type "type")
/-- the addresses, by places in the top (and in a class) -/
structure Ad where
  d : Nat → Addr
  c : Nat → Addr
  m : Nat → Nat → Addr
  co : Nat → Nat → Addr
structure Txt (K : PySem.W.Frag) (mg : Str → Option Value) (A : Ad) : Prop where
  within : Df K mg "within" s_within (A.d 25)
  check_hand : Df K mg "check_hand" s_check_hand (A.d 31)
  check_key : Df K mg "check_key" s_check_key (A.d 32)
  is_deed : Df K mg "is_deed" s_is_deed (A.d 33)
  check_deal : Df K mg "check_deal" s_check_deal (A.d 34)
  is_shown : Df K mg "is_shown" s_is_shown (A.d 35)
  shown_worth : Df K mg "shown_worth" s_shown_worth (A.d 36)
  put_row : Df K mg "put_row" s_put_row (A.d 37)
  drop_row : Df K mg "drop_row" s_drop_row (A.d 38)
  add_to_row : Df K mg "add_to_row" s_add_to_row (A.d 39)
  does_show : Df K mg "does_show" s_does_show (A.d 40)
  rows_behind : Df K mg "rows_behind" s_rows_behind (A.d 42)
  entry_block : Df K mg "entry_block" s_entry_block (A.d 50)
  page_block : Df K mg "page_block" s_page_block (A.d 51)
  check_page : Df K mg "check_page" s_check_page (A.d 54)
  is_too_heavy : Df K mg "is_too_heavy" s_is_too_heavy (A.d 59)
  check_block : Df K mg "check_block" s_check_block (A.d 60)
  begun : Df K mg "_law_begun" s_begun (A.d 63)
  take : Df K mg "_law_take" s_take (A.d 64)
  store : Df K mg "_law_store" s_store (A.d 65)
  again : Df K mg "_law_again" s_again (A.d 66)
  seen : Df K mg "_law_seen" s_seen (A.d 67)
  tried : Df K mg "_law_tried" s_tried (A.d 68)
  deal : Df K mg "_law_deal" s_deal (A.d 69)
  whole : Df K mg "_law_whole" s_whole (A.d 70)
  deed : Df K mg "_law_deed" s_deed (A.d 71)
  drawn : Df K mg "_law_drawn" s_drawn (A.d 72)
  group : Df K mg "_law_group" s_group (A.d 73)
  event : Df K mg "_law_event" s_event (A.d 74)
  behind : Df K mg "_law_behind" s_behind (A.d 75)
  do_ : Df K mg "_law_do" s_do (A.d 76)
  joined : Df K mg "_law_joined" s_joined (A.d 77)
  page : Df K mg "_law_page" s_page (A.d 78)
  law : Df K mg "law" s_law (A.d 79)
  c_StillError : mg "StillError" = some (.ref (A.c 2))
  c_BadDeal : mg "BadDeal" = some (.ref (A.c 3))
  x_BadHand : Xc K mg "BadHand" (A.c 4)
  x_BadLetter : Xc K mg "BadLetter" (A.c 5)
  x_BadTime : Xc K mg "BadTime" (A.c 6)
  x_BadKey : Xc K mg "BadKey" (A.c 7)
  x_BadHouse : Xc K mg "BadHouse" (A.c 8)
  x_NoCopy : Xc K mg "NoCopy" (A.c 9)
  c_Behind : mg "Behind" = some (.ref (A.c 10))
  x_BadBlock : Xc K mg "BadBlock" (A.c 11)
  x_Stopped : Xc K mg "Stopped" (A.c 12)
  c_Copy : mg "Copy" = some (.ref (A.c 27))
  cl_Copy : Cls K (A.c 27)
  n_Copy_aside : NoAttr K (A.c 27) "aside"
  n_Copy_number : NoAttr K (A.c 27) "number"
  n_Copy_wanted : NoAttr K (A.c 27) "wanted"
  m_Copy___init__ : Md K (A.c 27) "__init__" "Copy.__init__" s_Copy___init__ (A.m 27 0)
  mk_Copy : Mk K (A.c 27) (A.m 27 0)
  m_Copy_page_of : Md K (A.c 27) "page_of" "Copy.page_of" s_Copy_page_of (A.m 27 1)
  m_Copy_follow : Md K (A.c 27) "follow" "Copy.follow" s_Copy_follow (A.m 27 2)
  m_Copy_let_go : Md K (A.c 27) "let_go" "Copy.let_go" s_Copy_let_go (A.m 27 3)
  c_Shelf : mg "Shelf" = some (.ref (A.c 28))
  cl_Shelf : Cls K (A.c 28)
  n_Shelf_begun : NoAttr K (A.c 28) "begun"
  n_Shelf_copies : NoAttr K (A.c 28) "copies"
  m_Shelf___init__ : Md K (A.c 28) "__init__" "Shelf.__init__" s_Shelf___init__ (A.m 28 0)
  mk_Shelf : Mk K (A.c 28) (A.m 28 0)
  m_Shelf_begin : Md K (A.c 28) "begin" "Shelf.begin" s_Shelf_begin (A.m 28 1)
  m_Shelf_find_copy : Md K (A.c 28) "find_copy" "Shelf.find_copy" s_Shelf_find_copy (A.m 28 2)
  m_Shelf_read_out : Md K (A.c 28) "read_out" "Shelf.read_out" s_Shelf_read_out (A.m 28 3)
  m_Shelf_give_up : Md K (A.c 28) "give_up" "Shelf.give_up" s_Shelf_give_up (A.m 28 4)
  m_Shelf_follow : Md K (A.c 28) "follow" "Shelf.follow" s_Shelf_follow (A.m 28 5)
  m_Shelf_listed : Md K (A.c 28) "listed" "Shelf.listed" s_Shelf_listed (A.m 28 6)
  m_Shelf_count_aside : Md K (A.c 28) "count_aside" "Shelf.count_aside" s_Shelf_count_aside (A.m 28 7)
  c_Table : mg "Table" = some (.ref (A.c 44))
  cl_Table : Cls K (A.c 44)
  n_Table_hands : NoAttr K (A.c 44) "hands"
  n_Table_moment : NoAttr K (A.c 44) "moment"
  n_Table_number : NoAttr K (A.c 44) "number"
  n_Table_rows : NoAttr K (A.c 44) "rows"
  m_Table___init__ : Md K (A.c 44) "__init__" "Table.__init__" s_Table___init__ (A.m 44 0)
  mk_Table : Mk K (A.c 44) (A.m 44 0)
  m_Table_twin : Md K (A.c 44) "twin" "Table.twin" s_Table_twin (A.m 44 1)
  m_Table_take : Md K (A.c 44) "take" "Table.take" s_Table_take (A.m 44 2)
  m_Table_take_deal : Md K (A.c 44) "take_deal" "Table.take_deal" s_Table_take_deal (A.m 44 3)
  m_Table_told_of : Md K (A.c 44) "told_of" "Table.told_of" s_Table_told_of (A.m 44 4)
  m_Table_told_whole : Md K (A.c 44) "told_whole" "Table.told_whole" s_Table_told_whole (A.m 44 5)
  m_Table_last_letter : Md K (A.c 44) "last_letter" "Table.last_letter" s_Table_last_letter (A.m 44 6)
  m_Table_page_rows : Md K (A.c 44) "page_rows" "Table.page_rows" s_Table_page_rows (A.m 44 7)
  C_Table_page_rows : FnC K "page_rows" "Table.page_rows" s_Table_page_rows (A.m 44 7) (A.co 44 7)
  m_Table_hand_rows : Md K (A.c 44) "hand_rows" "Table.hand_rows" s_Table_hand_rows (A.m 44 8)
  C_Table_hand_rows : FnC K "hand_rows" "Table.hand_rows" s_Table_hand_rows (A.m 44 8) (A.co 44 8)
  m_Table_kept : Md K (A.c 44) "kept" "Table.kept" s_Table_kept (A.m 44 9)
  m_Table_shown : Md K (A.c 44) "shown" "Table.shown" s_Table_shown (A.m 44 10)
  C_Table_shown : FnC K "shown" "Table.shown" s_Table_shown (A.m 44 10) (A.co 44 10)
  m_Table_unlike : Md K (A.c 44) "unlike" "Table.unlike" s_Table_unlike (A.m 44 11)
  m_Table_fill : Md K (A.c 44) "fill" "Table.fill" s_Table_fill (A.m 44 12)
  m_Table_shed : Md K (A.c 44) "shed" "Table.shed" s_Table_shed (A.m 44 13)
  c_Store : mg "Store" = some (.ref (A.c 52))
  cl_Store : Cls K (A.c 52)
  n_Store_disk : NoAttr K (A.c 52) "disk"
  n_Store_root : NoAttr K (A.c 52) "root"
  n_Store_stops : NoAttr K (A.c 52) "stops"
  m_Store___init__ : Md K (A.c 52) "__init__" "Store.__init__" s_Store___init__ (A.m 52 0)
  mk_Store : Mk K (A.c 52) (A.m 52 0)
  m_Store_claim : Md K (A.c 52) "claim" "Store.claim" s_Store_claim (A.m 52 1)
  m_Store_put : Md K (A.c 52) "put" "Store.put" s_Store_put (A.m 52 2)
  m_Store_check_held : Md K (A.c 52) "check_held" "Store.check_held" s_Store_check_held (A.m 52 3)
  m_Store_write_root : Md K (A.c 52) "write_root" "Store.write_root" s_Store_write_root (A.m 52 4)
  m_Store_stored_table : Md K (A.c 52) "stored_table" "Store.stored_table" s_Store_stored_table (A.m 52 5)
  m_Store_last_entries : Md K (A.c 52) "last_entries" "Store.last_entries" s_Store_last_entries (A.m 52 6)
  m_Store_put_aside : Md K (A.c 52) "put_aside" "Store.put_aside" s_Store_put_aside (A.m 52 7)
  m_Store_gathered_pages : Md K (A.c 52) "gathered_pages" "Store.gathered_pages" s_Store_gathered_pages (A.m 52 8)
  c_Lead : mg "Lead" = some (.ref (A.c 55))
  cl_Lead : Cls K (A.c 55)
  n_Lead_entries : NoAttr K (A.c 55) "entries"
  n_Lead_followers : NoAttr K (A.c 55) "followers"
  n_Lead_houses : NoAttr K (A.c 55) "houses"
  n_Lead_shelf : NoAttr K (A.c 55) "shelf"
  n_Lead_store : NoAttr K (A.c 55) "store"
  n_Lead_table : NoAttr K (A.c 55) "table"
  m_Lead___init__ : Md K (A.c 55) "__init__" "Lead.__init__" s_Lead___init__ (A.m 55 0)
  mk_Lead : Mk K (A.c 55) (A.m 55 0)
  m_Lead_known : Md K (A.c 55) "known" "Lead.known" s_Lead_known (A.m 55 1)
  m_Lead_clock : Md K (A.c 55) "clock" "Lead.clock" s_Lead_clock (A.m 55 2)
  m_Lead_deals : Md K (A.c 55) "deals" "Lead.deals" s_Lead_deals (A.m 55 3)
  m_Lead_deal : Md K (A.c 55) "deal" "Lead.deal" s_Lead_deal (A.m 55 4)
  m_Lead_tick : Md K (A.c 55) "tick" "Lead.tick" s_Lead_tick (A.m 55 5)
  m_Lead_read : Md K (A.c 55) "read" "Lead.read" s_Lead_read (A.m 55 6)
  m_Lead_whole : Md K (A.c 55) "whole" "Lead.whole" s_Lead_whole (A.m 55 7)
  m_Lead_tidy : Md K (A.c 55) "tidy" "Lead.tidy" s_Lead_tidy (A.m 55 8)
  m_Lead_kept_rows : Md K (A.c 55) "kept_rows" "Lead.kept_rows" s_Lead_kept_rows (A.m 55 9)
  m_Lead_copy : Md K (A.c 55) "copy" "Lead.copy" s_Lead_copy (A.m 55 10)
  m_Lead_read_page : Md K (A.c 55) "read_page" "Lead.read_page" s_Lead_read_page (A.m 55 11)
  m_Lead_close : Md K (A.c 55) "close" "Lead.close" s_Lead_close (A.m 55 12)
  m_Lead_open_copies : Md K (A.c 55) "open_copies" "Lead.open_copies" s_Lead_open_copies (A.m 55 13)
  m_Lead_room : Md K (A.c 55) "room" "Lead.room" s_Lead_room (A.m 55 14)
  m_Lead_letters : Md K (A.c 55) "letters" "Lead.letters" s_Lead_letters (A.m 55 15)
  m_Lead_heard : Md K (A.c 55) "heard" "Lead.heard" s_Lead_heard (A.m 55 16)
  m_Lead_check_house : Md K (A.c 55) "check_house" "Lead.check_house" s_Lead_check_house (A.m 55 17)
  m_Lead_check_group : Md K (A.c 55) "check_group" "Lead.check_group" s_Lead_check_group (A.m 55 18)
  m_Lead_change_over : Md K (A.c 55) "change_over" "Lead.change_over" s_Lead_change_over (A.m 55 19)
  c_Disk : mg "Disk" = some (.ref (A.c 61))
  cl_Disk : Cls K (A.c 61)
  n_Disk_armed_picks : NoAttr K (A.c 61) "armed_picks"
  n_Disk_deeds_left : NoAttr K (A.c 61) "deeds_left"
  n_Disk_running : NoAttr K (A.c 61) "running"
  n_Disk_stops : NoAttr K (A.c 61) "stops"
  n_Disk_sure : NoAttr K (A.c 61) "sure"
  n_Disk_unsure : NoAttr K (A.c 61) "unsure"
  m_Disk___init__ : Md K (A.c 61) "__init__" "Disk.__init__" s_Disk___init__ (A.m 61 0)
  mk_Disk : Mk K (A.c 61) (A.m 61 0)
  m_Disk_write : Md K (A.c 61) "write" "Disk.write" s_Disk_write (A.m 61 1)
  m_Disk_settle : Md K (A.c 61) "settle" "Disk.settle" s_Disk_settle (A.m 61 2)
  m_Disk_read : Md K (A.c 61) "read" "Disk.read" s_Disk_read (A.m 61 3)
  m_Disk_arm : Md K (A.c 61) "arm" "Disk.arm" s_Disk_arm (A.m 61 4)
  m_Disk_stop : Md K (A.c 61) "stop" "Disk.stop" s_Disk_stop (A.m 61 5)
  m_Disk_again : Md K (A.c 61) "again" "Disk.again" s_Disk_again (A.m 61 6)
  m_Disk_settled : Md K (A.c 61) "settled" "Disk.settled" s_Disk_settled (A.m 61 7)
  m_Disk_check_running : Md K (A.c 61) "check_running" "Disk.check_running" s_Disk_check_running (A.m 61 8)
  m_Disk_count_deed : Md K (A.c 61) "count_deed" "Disk.count_deed" s_Disk_count_deed (A.m 61 9)
  k_LAST_KEY : ∃ t, mg "LAST_KEY" = some (.int 31 t)
  k_LAST_HAND : ∃ t, mg "LAST_HAND" = some (.int 3 t)
  k_LAST_WORTH : ∃ t, mg "LAST_WORTH" = some (.int 999 t)
  k_LAST_MOMENT : ∃ t, mg "LAST_MOMENT" = some (.int 1000000 t)
  k_PAGES : ∃ t, mg "PAGES" = some (.int 9 t)
  k_KEYS_OF_A_PAGE : ∃ t, mg "KEYS_OF_A_PAGE" = some (.int 4 t)
  k_HANDS_PAGE : ∃ t, mg "HANDS_PAGE" = some (.int 8 t)
  k_MOST_DEEDS : ∃ t, mg "MOST_DEEDS" = some (.int 4 t)
  k_MOST_DEALS : ∃ t, mg "MOST_DEALS" = some (.int 4 t)
  k_MOST_HOUSES : ∃ t, mg "MOST_HOUSES" = some (.int 3 t)
  k_MOST_ENTRIES : ∃ t, mg "MOST_ENTRIES" = some (.int 16 t)
  k_ROOT : ∃ t, mg "ROOT" = some (.int 0 t)
  k_FIRST_ENTRY : ∃ t, mg "FIRST_ENTRY" = some (.int 1 t)
  k_FIRST_PAGE : ∃ t, mg "FIRST_PAGE" = some (.int 17 t)
  k_BLOCKS : ∃ t, mg "BLOCKS" = some (.int 35 t)
  k_MOST_WEIGHT : ∃ t, mg "MOST_WEIGHT" = some (.int 40 t)
  ValueError : mg "ValueError" = none
  all : mg "all" = none
  bool : mg "bool" = none
  dict : mg "dict" = none
  enumerate : mg "enumerate" = none
  int : mg "int" = none
  isinstance : mg "isinstance" = none
  len : mg "len" = none
  list : mg "list" = none
  max : mg "max" = none
  min : mg "min" = none
  range : mg "range" = none
  sorted : mg "sorted" = none
  tuple : mg "tuple" = none
  zip : mg "zip" = none
end S02

set_option Elab.async false
set_option linter.all false
set_option maxRecDepth 100000
/-! ### The mathematics: deeds, rows, entries, readings -/
namespace S02
open PySem PySem.Spec PyProof.Rows L2 K5
inductive Dd where
  | put (k w l : Int)
  | drop (k : Int)
  | add (k m : Int)
  | iff (k : Int) (w : Option Int)
def oV : Option Int → V
  | none => .non
  | some i => .int i
def Dd.word : Dd → Str
  | .put .. => "put"
  | .drop .. => "drop"
  | .add .. => "add"
  | .iff .. => "if"
def Dd.parts : Dd → List V
  | .put k w l => [.int k, .int w, .int l]
  | .drop k => [.int k]
  | .add k m => [.int k, .int m]
  | .iff k w => [.int k, oV w]
def Dd.vs (d : Dd) : List V := .str d.word :: d.parts
def Dd.key : Dd → Int
  | .put k _ _ => k
  | .drop k => k
  | .add k _ => k
  | .iff k _ => k
def inB (lo hi n : Int) : Bool := decide (lo ≤ n) && decide (n ≤ hi)
def Dd.ok : Dd → Bool
  | .put k w l => inB 0 31 k && (inB 0 999 w && inB 0 1000 l)
  | .drop k => inB 0 31 k
  | .add k m => inB 0 31 k && inB (-999) 999 m
  | .iff k none => inB 0 31 k
  | .iff k (some w) => inB 0 31 k && inB 0 999 w
/-- the place of the first deed that is none, from i on -/
def badFrom (i : Nat) : List Dd → Option Nat
  | [] => none
  | d :: ds => if i = 4 ∨ d.ok = false then some i else badFrom (i + 1) ds
def dealBad (ds : List Dd) : Option Nat := if ds = [] then some 0 else badFrom 0 ds
/-! rows: a key's worth and end -/
abbrev Rw := Int → Option (Int × Int)
def Rw.set (f : Rw) (k : Int) (x : Option (Int × Int)) : Rw := fun j => if j = k then x else f j
def shB (e m : Int) : Bool := decide (e = 0) || decide (m < e)
def seen (m : Int) (f : Rw) (k : Int) : Option Int := match f k with
  | none => none
  | some (w, e) => if shB e m = true then some w else none
def step (m : Int) (f : Rw) : Dd → Option Rw
  | .put k w l => some (f.set k (some (w, if l = 0 then 0 else m + l)))
  | .drop k => some (f.set k none)
  | .add k x => match f k with
    | none => none
    | some (w, e) => if shB e m = true ∧ inB 0 999 (w + x) = true then some (f.set k (some (w + x, e))) else none
  | .iff k w => if seen m f k = w then some f else none
def steps (m : Int) : Rw → List Dd → Option Rw
  | f, [] => some f
  | f, d :: ds => match step m f d with
    | none => none
    | some g => steps m g ds
/-! entries -/
inductive En where
  | deal (h : Int) (ds : List Dd)
  | tick (t : Int)
  | odd
inductive Er where
  | hand
  | key
  | entry
  | deal (p : Nat)
structure Tb where
  rows : Rw
  mom : Int
def Tb.new : Tb := ⟨fun _ => none, 0⟩
def En.bad (m : Int) : En → Option Er
  | .deal h ds => if inB 0 3 h = true then (match dealBad ds with | none => none | some p => some (.deal p)) else some .hand
  | .tick t => if inB (m + 1) 1000000 t = true then none else some .entry
  | .odd => some .entry
def Tb.next (s : Tb) : En → Tb
  | .deal _ ds => ⟨match steps s.mom s.rows ds with | none => s.rows | some g => g, s.mom⟩
  | .tick t => ⟨s.rows, t⟩
  | .odd => s
/-- the tables behind none, one, .. of the entries -/
def tbs (s : Tb) : List En → List Tb
  | [] => [s]
  | e :: es => s :: tbs (s.next e) es
def lastT (s : Tb) (es : List En) : Tb := es.foldl Tb.next s
/-- the first entry that can't be -/
def badE (s : Tb) : List En → Option Er
  | [] => none
  | e :: es => match e.bad s.mom with
    | some r => some r
    | none => badE (s.next e) es
structure Rd where
  hand : Int
  num : Int
  key : Int
  worth : Option Int
def Rd.vs (r : Rd) : List V := [.int r.hand, .int r.num, .int r.key, oV r.worth]
def Rd.bad (r : Rd) : Option Er := if inB 0 3 r.hand = true then (if inB 0 31 r.key = true then none else some .key) else some .hand
def badR : List Rd → Option Er
  | [] => none
  | r :: rs => match r.bad with
    | some e => some e
    | none => badR rs
def okW : Option Int → Bool
  | none => true
  | some w => inB 0 999 w
abbrev Ls := Int → Int
def Ls.set (l : Ls) (h n : Int) : Ls := fun j => if j = h then n else l j
def fits (T : List Tb) (l : Ls) (r : Rd) : Bool := inB (l r.hand) (T.length - 1) r.num && (match T[r.num.toNat]? with
  | none => false
  | some t => okW r.worth && decide (seen t.mom t.rows r.key = r.worth))
def dueFrom (T : List Tb) (l : Ls) (i : Nat) : List Rd → Option Nat
  | [] => none
  | r :: rs => if fits T l r = true then dueFrom T (l.set r.hand r.num) (i + 1) rs else some i
def due (T : List Tb) (rs : List Rd) : Option Nat := dueFrom T (fun _ => 0) 0 rs
theorem tbs_length (s : Tb) (es : List En) : (tbs s es).length = es.length + 1 := by
  induction es generalizing s with
  | nil => rfl
  | cons e es ih => simp [tbs, ih]
theorem tbs_snoc (s : Tb) (es : List En) (e : En) : tbs s (es ++ [e]) = tbs s es ++ [(lastT s es).next e] := by
  induction es generalizing s with
  | nil => rfl
  | cons a es ih => simp only [List.cons_append, tbs, ih, lastT, List.foldl_cons]
theorem lastT_snoc (s : Tb) (es : List En) (e : En) : lastT s (es ++ [e]) = (lastT s es).next e := by simp [lastT]
theorem tbs_at (s : Tb) (es : List En) (i : Nat) (h : i ≤ es.length) : (tbs s es)[i]? = some (lastT s (es.take i)) := by
  induction es generalizing s i with
  | nil =>
    have : i = 0 := by simpa using h
    subst this
    rfl
  | cons e es ih =>
    cases i with
    | zero => rfl
    | succ i =>
      simp only [tbs, List.getElem?_cons_succ, List.take_succ_cons, lastT, List.foldl_cons]
      exact ih _ _ (by simpa using h)
theorem badE_app {s : Tb} {es fs : List En} (h : badE s es = none) : badE s (es ++ fs) = badE (lastT s es) fs := by
  induction es generalizing s with
  | nil => rfl
  | cons e es ih =>
    simp only [badE] at h
    simp only [List.cons_append, badE, lastT, List.foldl_cons]
    cases q : e.bad s.mom with
    | some r => rw [q] at h; cases h
    | none =>
      rw [q] at h
      exact ih h
theorem badR_app {rs qs : List Rd} (h : badR rs = none) : badR (rs ++ qs) = badR qs := by
  induction rs with
  | nil => rfl
  | cons r rs ih =>
    simp only [badR] at h
    simp only [List.cons_append, badR]
    cases q : r.bad with
    | some e => rw [q] at h; cases h
    | none =>
      rw [q] at h
      exact ih h
theorem inB_t {lo hi n : Int} : inB lo hi n = true ↔ lo ≤ n ∧ n ≤ hi := by simp [inB]
theorem shB_t {e m : Int} : shB e m = true ↔ e = 0 ∨ m < e := by simp [shB]
end S02

set_option Elab.async false
set_option linter.all false
set_option maxRecDepth 100000
set_option maxHeartbeats 1000000
/-! ### What stands in the heap -/
namespace S02
open PySem PySem.Spec PyProof.Rows L2 K5 SupX
theorem paired_at {α β : Type} {R : α → β → Prop} {xs : List α} {ys : List β} (h : Paired R xs ys) {i : Nat} {x : α} (e : xs[i]? = some x) : ∃ y, ys[i]? = some y ∧ R x y := by
  induction h generalizing i with
  | nil => cases e
  | cons r _ ih =>
    cases i with
    | zero =>
      cases e
      exact ⟨_, rfl, r⟩
    | succ i => exact ih e
theorem paired_to {α β : Type} {R : α → β → Prop} {xs : List α} {ys : List β} (h : Paired R xs ys) {i : Nat} {y : β} (e : ys[i]? = some y) : ∃ x, xs[i]? = some x ∧ R x y := by
  induction h generalizing i with
  | nil => cases e
  | cons r _ ih =>
    cases i with
    | zero =>
      cases e
      exact ⟨_, rfl, r⟩
    | succ i => exact ih e
theorem paired_take {α β : Type} {R : α → β → Prop} {xs : List α} {ys : List β} (h : Paired R xs ys) (n : Nat) : Paired R (xs.take n) (ys.take n) := by
  induction h generalizing n with
  | nil => cases n <;> exact .nil
  | cons r _ ih =>
    cases n with
    | zero => exact .nil
    | succ n => exact .cons r (ih n)
theorem paired_drop {α β : Type} {R : α → β → Prop} {xs : List α} {ys : List β} (h : Paired R xs ys) (n : Nat) : Paired R (xs.drop n) (ys.drop n) := by
  induction h generalizing n with
  | nil => cases n <;> exact .nil
  | cons r t ih =>
    cases n with
    | zero => exact .cons r t
    | succ n => exact ih n
theorem paired_app {α β : Type} {R : α → β → Prop} {xs xs2 : List α} {ys ys2 : List β} (h : Paired R xs ys) (h2 : Paired R xs2 ys2) : Paired R (xs ++ xs2) (ys ++ ys2) := by
  induction h with
  | nil => exact h2
  | cons r _ ih => exact .cons r ih
theorem kp_fresh {F F' : Addr → Prop} {H G : Hp} (k : Kp F H G) (n : ∀ b, F b → H b = none) : Kp F' H G := fun b o e _ => k b o e fun _ z => by rw [n b z] at e; cases e
theorem take_snoc {α : Type} {xs : List α} {i : Nat} {x : α} (h : xs[i]? = some x) : xs.take (i + 1) = xs.take i ++ [x] := by
  rw [List.take_succ, h]
  rfl
def DdAt (H : Hp) (v : V) (d : Dd) : Prop := ∃ a, v = .ref a ∧ H a = some (.tup d.vs)
def DsAt (H : Hp) (v : V) (ds : List Dd) : Prop := ∃ a xs, v = .ref a ∧ H a = some (.tup xs) ∧ Paired (DdAt H) xs ds ∧ ds.length ≤ 1000
def RwAt (H : Hp) (a : Addr) (f : Rw) (n : Nat) : Prop := ∃ kvs, H a = some (.dK kvs) ∧ kvs.length ≤ n ∧ ∀ k : Int, match f k with
  | none => valV kvs (.inl k : Key) = none
  | some (w, e) => ∃ t, valV kvs (.inl k : Key) = some (.ref t) ∧ H t = some (.tup [.int w, .int e])
def EnAt (H : Hp) (v : V) : En → Prop
  | .deal h ds => ∃ a dv, v = .ref a ∧ H a = some (.tup [.str "deal", .int h, dv]) ∧ DsAt H dv ds
  | .tick t => ∃ a, v = .ref a ∧ H a = some (.tup [.str "tick", .int t])
  | .odd => ∃ a xs, v = .ref a ∧ H a = some (.tup xs) ∧ (xs = [] ∨ xs = [.str "tick"] ∨ ∃ dv ds, xs = [.str "Deal", .int 0, dv] ∧ DsAt H dv ds)
def RdAt (H : Hp) (v : V) (r : Rd) : Prop := ∃ a, v = .ref a ∧ H a = some (.tup r.vs)
section
variable {F : Addr → Prop} {H G : Hp}
theorem DdAt.kt (k : Kt F H G) {v : V} {d : Dd} (h : DdAt H v d) : DdAt G v d := let ⟨a, e, q⟩ := h; ⟨a, e, k.tup q⟩
theorem DsAt.kt (k : Kt F H G) {v : V} {ds : List Dd} (h : DsAt H v ds) : DsAt G v ds := let ⟨a, xs, e, q, p, l⟩ := h; ⟨a, xs, e, k.tup q, p.mono fun _ _ z => z.kt k, l⟩
theorem RwAt.kt (k : Kt F H G) {a : Addr} {f : Rw} {n : Nat} (h : RwAt H a f n) (nf : ¬ F a) : RwAt G a f n := by
  obtain ⟨kvs, e, l, q⟩ := h
  refine ⟨kvs, k.dK e nf, l, fun j => ?_⟩
  have := q j
  cases hf : f j with
  | none =>
    rw [hf] at this
    exact this
  | some p =>
    obtain ⟨w, e⟩ := p
    rw [hf] at this
    obtain ⟨t, h1, h2⟩ := this
    exact ⟨t, h1, k.tup h2⟩
theorem RwAt.le {a : Addr} {f : Rw} {n m : Nat} (h : RwAt H a f n) (l : n ≤ m) : RwAt H a f m := let ⟨kvs, e, q, r⟩ := h; ⟨kvs, e, Nat.le_trans q l, r⟩
theorem EnAt.kt (k : Kt F H G) {v : V} : ∀ {e : En}, EnAt H v e → EnAt G v e
  | .deal _ _, ⟨a, dv, e, q, d⟩ => ⟨a, dv, e, k.tup q, d.kt k⟩
  | .tick _, ⟨a, e, q⟩ => ⟨a, e, k.tup q⟩
  | .odd, ⟨a, xs, e, q, .inl z⟩ => ⟨a, xs, e, k.tup q, .inl z⟩
  | .odd, ⟨a, xs, e, q, .inr (.inl z)⟩ => ⟨a, xs, e, k.tup q, .inr (.inl z)⟩
  | .odd, ⟨a, xs, e, q, .inr (.inr ⟨dv, ds, z, d⟩)⟩ => ⟨a, xs, e, k.tup q, .inr (.inr ⟨dv, ds, z, d.kt k⟩)⟩
theorem RdAt.kt (k : Kt F H G) {v : V} {r : Rd} (h : RdAt H v r) : RdAt G v r := let ⟨a, e, q⟩ := h; ⟨a, e, k.tup q⟩
end
section
variable {α : Type} [DecidableEq α] {kvs : List (α × V)}
theorem valV_drop (kvs : List (α × V)) (k j : α) : valV (dropK kvs k) j = if j = k then none else valV kvs j := by
  unfold valV dropK
  induction kvs with
  | nil => simp
  | cons p ps ih =>
    by_cases hp : p.1 = k
    · rw [List.filter_cons_of_neg (by simp [hp]), ih]
      by_cases hj : j = k
      · rw [if_pos hj, if_pos hj]
      · rw [if_neg hj, if_neg hj, List.find?_cons_of_neg (by simpa using fun z => hj (z.symm.trans hp))]
    · rw [List.filter_cons_of_pos (by simp [hp])]
      by_cases hj : p.1 = j
      · rw [List.find?_cons_of_pos (by simp [hj]), List.find?_cons_of_pos (by simp [hj]), if_neg (fun z => hp (hj.trans z))]
      · rw [List.find?_cons_of_neg (by simpa using hj), List.find?_cons_of_neg (by simpa using hj)]
        exact ih
theorem dropK_len (kvs : List (α × V)) (k : α) : (dropK kvs k).length ≤ kvs.length := List.length_filter_le _ _
end
theorem sz (n : Nat) (h : n ≤ 16777216) : n ≤ sizeLine := by rw [sizeLine_eq]; exact h
theorem szL {n : Nat} (h : n ≤ 16000) : n < sizeLine := by rw [sizeLine_eq]; omega
section
variable {H : Hp} {a : Addr} {f : Rw} {n : Nat}
/-- a key is stored -/
theorem RwAt.put {kvs : List (Key × V)} {k w e : Int} {t : Addr} (h : RwAt H a f n) (hd : H a = some (.dK kvs)) (ht : H t = some (.tup [.int w, .int e])) : RwAt (upd H a (.dK (putK kvs (.inl k) (.ref t)))) a (f.set k (some (w, e))) (n + 1) := by
  obtain ⟨kv2, e1, l, q⟩ := h
  obtain rfl : kvs = kv2 := by rw [e1] at hd; cases hd; rfl
  have nt : ∀ {t : Addr} {xs : List V}, H t = some (.tup xs) → t ≠ a := fun h => ne_of h e1 (by intro z; cases z)
  refine ⟨_, upd_same, Nat.le_trans (length_putK _ _ _) (by omega), fun j => ?_⟩
  rw [valV_put]
  unfold Rw.set
  by_cases hj : j = k
  · rw [if_pos hj, if_pos (by rw [hj])]
    exact ⟨t, rfl, by rw [upd_ne (nt ht)]; exact ht⟩
  · rw [if_neg hj, if_neg (fun z => hj (Sum.inl.inj z))]
    have := q j
    cases hf : f j with
    | none =>
      rw [hf] at this
      exact this
    | some p =>
      obtain ⟨w', e'⟩ := p
      rw [hf] at this
      obtain ⟨t', h1, h2⟩ := this
      exact ⟨t', h1, by rw [upd_ne (nt h2)]; exact h2⟩
theorem RwAt.del {kvs : List (Key × V)} {k : Int} (h : RwAt H a f n) (hd : H a = some (.dK kvs)) : RwAt (upd H a (.dK (dropK kvs (.inl k)))) a (f.set k none) n := by
  obtain ⟨kv2, e1, l, q⟩ := h
  obtain rfl : kvs = kv2 := by rw [e1] at hd; cases hd; rfl
  refine ⟨_, upd_same, Nat.le_trans (dropK_len _ _) l, fun j => ?_⟩
  rw [valV_drop]
  unfold Rw.set
  by_cases hj : j = k
  · rw [if_pos hj, if_pos (by rw [hj])]
  · rw [if_neg hj, if_neg (fun z => hj (Sum.inl.inj z))]
    have := q j
    cases hf : f j with
    | none =>
      rw [hf] at this
      exact this
    | some p =>
      obtain ⟨w', e'⟩ := p
      rw [hf] at this
      obtain ⟨t', h1, h2⟩ := this
      exact ⟨t', h1, by rw [upd_ne (ne_of h2 e1 (by intro z; cases z))]; exact h2⟩
theorem set_none {k : Int} (h : f k = none) : f.set k none = f := funext fun j => by
  unfold Rw.set
  by_cases hj : j = k
  · rw [if_pos hj, hj, h]
  · rw [if_neg hj]
end
end S02

set_option Elab.async false
set_option linter.all false
set_option maxRecDepth 100000
set_option maxHeartbeats 1000000
namespace S02
open PySem PySem.Spec PyProof.Rows L2 K5 SupX
section
variable {P : Program} {w : World} {K : PySem.W.Frag} {mg : Str → Option Value} {base : Heap} {A : Ad}
/-! ### within -/
theorem scwithin : FnScope ["number", "low", "high"] ["number", "low", "high"] (defScope s_within) := ⟨rfl, rfl, rfl, by decide +kernel, rfl, by decide +kernel, by decide +kernel⟩
/-- of a number; of None -/
def spWithin : Sp := fun vs H Q _ => ∃ (v : V) (lo hi : Int), vs = [v, .int lo, .int hi] ∧ ((∃ n, v = .int n ∧ Q (.bl (inB lo hi n)) H) ∨ (v = .non ∧ Q (.bl false) H))
theorem ok_within (T : Txt K mg A) : ∃ fd, FnOk P w K mg base CX0 1 (A.d 25) fd ["number", "low", "high"] spWithin ∧ Binds K fd ["number", "low", "high"] [] := by
  obtain ⟨fd, F⟩ := T.within.fn
  refine ⟨fd, F.ok scwithin (fun vs H Q E h => ?_) (fun cdv A outer s H vs Q E hr h => ?_), F.binds fun _ _ _ _ _ _ us hl => match us, hl with | [_, _, _], _ => rfl⟩
  · obtain ⟨v, lo, hi, rfl, _⟩ := h
    rfl
  · obtain ⟨v, lo, hi, rfl, k⟩ := h
    refine ⟨_, (pss_one (ps_ret (pe_and (pe_callB call_isi (by rfl) T.isinstance (by decide +kernel) (pa_cons (pv 0) (pa_cons (pe_bltn (v := .ty "int") (by rfl) T.int (by decide +kernel) rfl) pa_nil))) (pe_and (pe_not (pe_callB call_isi (by rfl) T.isinstance (by decide +kernel) (pa_cons (pv 0) (pa_cons (pe_bltn (v := .ty "bool") (by rfl) T.bool (by decide +kernel) rfl) pa_nil)))) (pe_one (pe_chain op_le op_le (pv 1) (pv 0) (pv 2))))))), ?_⟩
    rcases k with ⟨n, rfl, k⟩ | ⟨rfl, k⟩
    · refine ⟨_, rfl, _, _, _, _, true, rfl, .ty "int", .base (.int n), by rfl, true, rfl, iteT ?_⟩
      refine ⟨_, rfl, _, _, _, _, false, rfl, .ty "bool", .base (.int n), by rfl, false, rfl, true, rfl, iteT ?_⟩
      refine ⟨_, rfl, _, rfl, _, _, rfl, rfl, _, rfl, ?_⟩
      unfold inB at k
      by_cases h1 : lo ≤ n
      · rw [decide_eq_true h1] at k ⊢
        rw [Bool.true_and] at k
        exact iteT ⟨_, rfl, _, _, rfl, rfl, k⟩
      · rw [decide_eq_false h1] at k ⊢
        rw [Bool.false_and] at k
        exact iteF k
    · refine ⟨_, rfl, _, _, _, _, false, rfl, .ty "int", .base .non, by rfl, false, rfl, iteF ?_⟩
      exact k
/-! ### is_shown, shown_worth -/
theorem scis_shown : FnScope ["end", "moment"] ["end", "moment"] (defScope s_is_shown) := ⟨rfl, rfl, rfl, by decide +kernel, rfl, by decide +kernel, by decide +kernel⟩
def spShown : Sp := fun vs H Q _ => ∃ e m : Int, vs = [.int e, .int m] ∧ Q (.bl (shB e m)) H
theorem ok_is_shown (T : Txt K mg A) : ∃ fd, FnOk P w K mg base CX0 1 (A.d 35) fd ["end", "moment"] spShown ∧ Binds K fd ["end", "moment"] [] := by
  obtain ⟨fd, F⟩ := T.is_shown.fn
  refine ⟨fd, F.ok scis_shown (fun vs H Q E h => ?_) (fun cdv A outer s H vs Q E hr h => ?_), F.binds fun _ _ _ _ _ _ us hl => match us, hl with | [_, _], _ => rfl⟩
  · obtain ⟨e, m, rfl, _⟩ := h
    rfl
  · obtain ⟨e, m, rfl, k⟩ := h
    refine ⟨_, (pss_one (ps_ret (pe_or (pe_cmpR op_eq (pv 0) pe_int (nomark _)) (pe_one (pe_cmpR op_gt (pv 0) (pv 1) (nomark _)))))), ?_⟩
    refine ⟨_, rfl, rfl, _, rfl, ?_⟩
    unfold shB at k
    have e1 : decide (V.int e = V.int 0) = decide (e = 0) := by simp
    rw [e1]
    by_cases h1 : e = 0
    · rw [decide_eq_true h1] at k ⊢
      rw [Bool.true_or] at k
      exact iteT k
    · rw [decide_eq_false h1] at k ⊢
      rw [Bool.false_or] at k
      exact iteF ⟨_, rfl, _, rfl, _, _, rfl, rfl, k⟩
theorem scshown_worth : FnScope ["rows", "key", "moment", "worth", "end"] ["rows", "key", "moment"] (defScope s_shown_worth) := ⟨rfl, rfl, rfl, by decide +kernel, rfl, by decide +kernel, by decide +kernel⟩
def spWorth : Sp := fun vs H Q _ => ∃ (a : Addr) (k m : Int) (f : Rw) (n : Nat), vs = [.ref a, .int k, .int m] ∧ RwAt H a f n ∧ Q (oV (seen m f k)) H
theorem ok_shown_worth (T : Txt K mg A) : ∃ fd, FnOk P w K mg base CX0 2 (A.d 36) fd ["rows", "key", "moment"] spWorth ∧ Binds K fd ["rows", "key", "moment"] [] := by
  obtain ⟨fd, F⟩ := T.shown_worth.fn
  obtain ⟨fdS, Gis_shown, bis_shown⟩ := ok_is_shown (P := P) (w := w) (base := base) T
  refine ⟨fd, F.ok scshown_worth (fun vs H Q E h => ?_) (fun cdv A outer s H vs Q E hr h => ?_), F.binds fun _ _ _ _ _ _ us hl => match us, hl with | [_, _, _], _ => rfl⟩
  · obtain ⟨a, j, m, f, n, rfl, _⟩ := h
    rfl
  · obtain ⟨a, j, m, f, n, rfl, ⟨kvs, hd, hl, hf⟩, k⟩ := h
    have hu := hu_of hr
    refine ⟨_, (pss_cons (ps_if (pt_cmp (pc_dnotin hu (pv 1) (pv 0)))
        (pss_one (ps_ret pe_non))
        pss_nil)
      (pss_cons (ps_asg (pe_dget hu (pv 0) (pv 1) (fun _ _ => rfl)) (pg_tup rfl (pgs_cons (pg_name (i := 3) scshown_worth.nd rfl (Or.inl rfl)) (pgs_cons (pg_name (i := 4) scshown_worth.nd rfl (Or.inl rfl)) pgs_nil))))
      (pss_one (ps_ret (pe_ifExp (pt_val (pe_call Gis_shown (hr.mono (by first | decide | omega)) rfl T.is_shown.at_ T.is_shown.kp bis_shown .nil pass0 (pa_cons (pv 4) (pa_cons (pv 2) pa_nil)))) (pv 3) pe_non))))), ?_⟩
    have q := hf j
    unfold seen at k
    refine ⟨_, rfl, _, rfl, a, _, rfl, DGet.k (k := Sum.inl j) hd, _, rfl, ?_⟩
    cases e : f j with
    | none =>
      rw [e] at q k
      rw [q]
      exact iteT k
    | some p =>
      obtain ⟨wt, en⟩ := p
      rw [e] at q k
      obtain ⟨t, q1, q2⟩ := q
      rw [q1]
      refine iteF ?_
      refine ⟨_, rfl, _, rfl, a, _, rfl, by have := DGet.k (k := Sum.inl j) hd; rw [q1] at this; exact this, ?_⟩
      refine ⟨t, _, rfl, SqT.of q2, rfl, _, _, rfl, _, _, rfl, rfl, ?_⟩
      refine ⟨_, rfl, _, rfl, en, m, rfl, _, rfl, ?_⟩
      by_cases hs : shB en m = true
      · have k : Q (oV (if shB en m = true then some wt else none)) H := k
        rw [if_pos hs] at k
        rw [hs]
        exact iteT ⟨_, rfl, k⟩
      · have k : Q (oV (if shB en m = true then some wt else none)) H := k
        rw [if_neg hs] at k
        rw [Bool.not_eq_true] at hs
        rw [hs]
        exact iteF k
end
end S02

set_option Elab.async false
set_option linter.all false
set_option maxRecDepth 100000
set_option maxHeartbeats 1000000
namespace S02
open PySem PySem.Spec PyProof.Rows L2 K5 SupX
section
variable {P : Program} {w : World} {K : PySem.W.Frag} {mg : Str → Option Value} {base : Heap} {A : Ad}
/-- a deed's action: rows at a, the parts at p, the moment -/
def spAct (wd : Str) : Sp := fun vs H Q _ => ∃ (a p : Addr) (m : Int) (f : Rw) (n : Nat) (d : Dd), vs = [.ref a, .ref p, .int m] ∧ d.word = wd ∧ RwAt H a f n ∧ n ≤ 15000 ∧ H p = some (.lst d.parts) ∧
  ∀ G, Kp (fun b => b = a) H G → (step m f d = none → Q (.bl false) G) ∧ (∀ g, step m f d = some g → RwAt G a g (n + 1) → Q (.bl true) G)
theorem spAct_len {wd : Str} {vs : List V} {H : Hp} {Q : VK} {E : XK} (h : spAct wd vs H Q E) : vs.length = 3 := by
  obtain ⟨a, p, m, f, n, d, rfl, _⟩ := h
  rfl
theorem scput_row : FnScope ["rows", "parts", "moment", "key", "worth", "life"] ["rows", "parts", "moment"] (defScope s_put_row) := ⟨rfl, rfl, rfl, by decide +kernel, rfl, by decide +kernel, by decide +kernel⟩
theorem ok_put_row (T : Txt K mg A) : ∃ fd, FnOk P w K mg base CX0 3 (A.d 37) fd ["rows", "parts", "moment"] (spAct "put") ∧ Binds K fd ["rows", "parts", "moment"] [] := by
  obtain ⟨fd, F⟩ := T.put_row.fn
  refine ⟨fd, F.ok scput_row (fun vs H Q E h => spAct_len h) (fun cdv A outer s H vs Q E hr h => ?_), F.binds fun _ _ _ _ _ _ us hl => match us, hl with | [_, _, _], _ => rfl⟩
  obtain ⟨a, p, m, f, n, d, rfl, hw, R, hn, hp, k⟩ := h
  have hu := hu_of hr
  obtain ⟨j, wt, l, rfl⟩ : ∃ j wt l, d = .put j wt l := by
    cases d with
    | put j wt l => exact ⟨j, wt, l, rfl⟩
    | drop => cases hw
    | add => cases hw
    | iff => cases hw
  refine ⟨_, (pss_cons (ps_asg (pv 1) (pg_unl rfl (pgs_cons (pg_name (i := 3) scput_row.nd rfl (Or.inl rfl)) (pgs_cons (pg_name (i := 4) scput_row.nd rfl (Or.inl rfl)) (pgs_cons (pg_name (i := 5) scput_row.nd rfl (Or.inl rfl)) pgs_nil)))))
      (pss_cons (ps_dput hu (pv 0) (pv 3) (pe_tup (pa_cons (pv 4) (pa_cons (pe_ifExp (pt_truth (pv 5) (by intro _; rfl)) (pe_op op_add (pv 2) (pv 5)) pe_int) pa_nil))) rfl)
      (pss_one (ps_ret pe_bl)))), ?_⟩
  have ⟨kvs, hd, hl, _⟩ := R
  refine ⟨_, rfl, p, _, rfl, SqL.of hp, rfl, _, _, rfl, _, _, rfl, _, _, rfl, rfl, ?_⟩
  refine ⟨_, rfl, _, rfl, (l != 0), rfl, ?_⟩
  refine ite2 (fun h0 => ⟨_, rfl, _, rfl, _, _, rfl, rfl, ?_⟩) (fun h0 => ?_)
  all_goals
    refine ⟨sz 2 (by decide), fun t ht => ?_⟩
    refine ⟨_, rfl, _, rfl, a, _, rfl, DPut.k (k := Sum.inl j) ((upd_ne (ne_of_none hd ht)).trans hd) (szL (by omega)), ?_⟩
    refine (k _ ((Kp.new ht).andD ((upd_ne (ne_of_none hd ht)).trans hd) rfl)).2 _ ?_ ((R.kt (Kp.new (F := No) ht).t fun z => z).put (k := j) ((upd_ne (ne_of_none hd ht)).trans hd) upd_same)
    have h0' : (l != 0) = true ↔ l ≠ 0 := bne_iff_ne
    simp only [step]
    first
      | rw [if_neg (h0'.mp h0)]
      | rw [if_pos (Decidable.byContradiction fun z => h0 (h0'.mpr z))]
theorem scdrop_row : FnScope ["rows", "parts", "moment"] ["rows", "parts", "moment"] (defScope s_drop_row) := ⟨rfl, rfl, rfl, by decide +kernel, rfl, by decide +kernel, by decide +kernel⟩
theorem ok_drop_row (T : Txt K mg A) : ∃ fd, FnOk P w K mg base CX0 3 (A.d 38) fd ["rows", "parts", "moment"] (spAct "drop") ∧ Binds K fd ["rows", "parts", "moment"] [] := by
  obtain ⟨fd, F⟩ := T.drop_row.fn
  refine ⟨fd, F.ok scdrop_row (fun vs H Q E h => spAct_len h) (fun cdv A outer s H vs Q E hr h => ?_), F.binds fun _ _ _ _ _ _ us hl => match us, hl with | [_, _, _], _ => rfl⟩
  obtain ⟨a, p, m, f, n, d, rfl, hw, R, hn, hp, k⟩ := h
  have hu := hu_of hr
  obtain ⟨j, rfl⟩ : ∃ j, d = .drop j := by
    cases d with
    | put => cases hw
    | drop j => exact ⟨j, rfl⟩
    | add => cases hw
    | iff => cases hw
  refine ⟨_, (pss_cons (ps_expr (pe_dpop2 (pv 0) (pe_ix ix_list (pv 1) pe_int (fun _ _ => rfl)) pe_non ⟨rfl, rfl, rfl, rfl⟩))
      (pss_one (ps_ret pe_bl))), ?_⟩
  have ⟨kvs, hd, hl, hf⟩ := R
  refine ⟨_, rfl, a, rfl, .inl ⟨kvs, .inl hd⟩, _, rfl, p, _, 0, .int j, rfl, rfl, SqL.of hp, rfl, kvs, Sum.inl j, hd, rfl, fun v hv => ?_, fun hv => ?_⟩
  · exact (k _ (Kp.updD hd rfl)).2 _ rfl ((R.del (k := j) hd).le (by omega))
  · have e : f.set j none = f := set_none (by
      have := hf j
      cases e : f j with
      | none => rfl
      | some q =>
        obtain ⟨w', e'⟩ := q
        rw [e] at this
        obtain ⟨t, h1, _⟩ := this
        rw [hv] at h1
        cases h1)
    exact (k _ (Kp.refl _ _)).2 _ rfl (by rw [e]; exact R.le (by omega))
theorem scadd_to_row : FnScope ["rows", "parts", "moment", "key", "more", "worth"] ["rows", "parts", "moment"] (defScope s_add_to_row) := ⟨rfl, rfl, rfl, by decide +kernel, rfl, by decide +kernel, by decide +kernel⟩
theorem ok_add_to_row (T : Txt K mg A) : ∃ fd, FnOk P w K mg base CX0 3 (A.d 39) fd ["rows", "parts", "moment"] (spAct "add") ∧ Binds K fd ["rows", "parts", "moment"] [] := by
  obtain ⟨fd, F⟩ := T.add_to_row.fn
  obtain ⟨fdW, Gshown_worth, bshown_worth⟩ := ok_shown_worth (P := P) (w := w) (base := base) T
  obtain ⟨fdI, Gwithin, bwithin⟩ := ok_within (P := P) (w := w) (base := base) T
  refine ⟨fd, F.ok scadd_to_row (fun vs H Q E h => spAct_len h) (fun cdv A outer s H vs Q E hr h => ?_), F.binds fun _ _ _ _ _ _ us hl => match us, hl with | [_, _, _], _ => rfl⟩
  obtain ⟨a, p, m, f, n, d, rfl, hw, R, hn, hp, k⟩ := h
  have hu := hu_of hr
  obtain ⟨j, x, rfl⟩ : ∃ j x, d = .add j x := by
    cases d with
    | put => cases hw
    | drop => cases hw
    | add j x => exact ⟨j, x, rfl⟩
    | iff => cases hw
  refine ⟨_, (pss_cons (ps_asg (pv 1) (pg_unl rfl (pgs_cons (pg_name (i := 3) scadd_to_row.nd rfl (Or.inl rfl)) (pgs_cons (pg_name (i := 4) scadd_to_row.nd rfl (Or.inl rfl)) pgs_nil))))
      (pss_cons (ps_set (i := 5) scadd_to_row.nd rfl (Or.inl rfl) (pe_call Gshown_worth (hr.mono (by first | decide | omega)) rfl T.shown_worth.at_ T.shown_worth.kp bshown_worth .nil pass0 (pa_cons (pv 0) (pa_cons (pv 3) (pa_cons (pv 2) pa_nil)))))
      (pss_cons (ps_if (PW.pt (pw_or (pt_cmp (pc_isN (pv 5))) (pw_or1 (pt_not (pt_val (pe_call Gwithin (hr.mono (by first | decide | omega)) rfl T.within.at_ T.within.kp bwithin .nil pass0 (pa_cons (pe_op op_add (pv 5) (pv 4)) (pa_cons pe_int (pa_cons (pe_glob (v := .int 999) rfl T.k_LAST_WORTH.choose_spec ⟨_, rfl⟩) pa_nil)))))))))
        (pss_one (ps_ret pe_bl))
        pss_nil)
      (pss_cons (ps_dput hu (pv 0) (pv 3) (pe_tup (pa_cons (pe_op op_add (pv 5) (pv 4)) (pa_cons (pe_ix ix_tup (pe_dget hu (pv 0) (pv 3) (fun _ _ => rfl)) pe_int (fun _ _ => rfl)) pa_nil))) rfl)
      (pss_one (ps_ret pe_bl)))))), ?_⟩
  have ⟨kvs, hd, hl, hf⟩ := R
  refine ⟨_, rfl, p, _, rfl, SqL.of hp, rfl, _, _, rfl, _, _, rfl, rfl, ?_⟩
  refine ⟨_, rfl, _, rfl, _, rfl, a, j, m, f, n, rfl, R, ?_⟩
  have q := hf j
  have no := (k H (Kp.refl _ _)).1
  cases e : f j with
  | none =>
    have s0 : step m f (.add j x) = none := by simp only [step, e]
    have z0 : seen m f j = none := by simp only [seen, e]
    rw [z0]
    exact ⟨_, rfl, _, rfl, iteT (iteT (no s0))⟩
  | some r =>
    obtain ⟨wt, en⟩ := r
    rw [e] at q
    obtain ⟨t, q1, q2⟩ := q
    by_cases hs : shB en m = true
    · have z0 : seen m f j = some wt := by simp only [seen, e, hs, if_true]
      rw [z0]
      refine ⟨_, rfl, _, rfl, iteF ?_⟩
      refine ⟨_, rfl, _, rfl, _, _, rfl, rfl, _, 0, 999, rfl, .inl ⟨_, rfl, _, rfl, ?_⟩⟩
      cases hb : inB 0 999 (wt + x) with
      | false =>
        have s0 : step m f (.add j x) = none := by simp only [step, e, hs, hb]; rfl
        exact iteT (no s0)
      | true =>
        have s0 : step m f (.add j x) = some (f.set j (some (wt + x, en))) := by simp only [step, e, hs, hb]; rfl
        refine iteF ?_
        refine ⟨_, rfl, _, rfl, _, _, rfl, rfl, _, rfl, _, rfl, a, _, rfl, (by have := DGet.k (k := Sum.inl j) hd; rw [q1] at this; exact this), t, _, 1, .int en, rfl, rfl, SqT.of q2, rfl, sz 2 (by decide), fun t2 h2 => ?_⟩
        refine ⟨_, rfl, _, rfl, a, _, rfl, DPut.k (k := Sum.inl j) ((upd_ne (ne_of_none hd h2)).trans hd) (szL (by omega)), ?_⟩
        exact (k _ ((Kp.new h2).andD ((upd_ne (ne_of_none hd h2)).trans hd) rfl)).2 _ s0 ((R.kt (Kp.new (F := No) h2).t fun z => z).put (k := j) ((upd_ne (ne_of_none hd h2)).trans hd) upd_same)
    · have z0 : seen m f j = none := by simp only [seen, e, hs, if_false]; rfl
      have s0 : step m f (.add j x) = none := by simp only [step, e, hs, false_and, if_false]; rfl
      rw [z0]
      exact ⟨_, rfl, _, rfl, iteT (iteT (no s0))⟩
theorem scdoes_show : FnScope ["rows", "parts", "moment", "key", "worth"] ["rows", "parts", "moment"] (defScope s_does_show) := ⟨rfl, rfl, rfl, by decide +kernel, rfl, by decide +kernel, by decide +kernel⟩
theorem oV_eq {a b : Option Int} : decide (oV a = oV b) = decide (a = b) := by
  cases a <;> cases b <;> simp [oV]
theorem ok_does_show (T : Txt K mg A) : ∃ fd, FnOk P w K mg base CX0 3 (A.d 40) fd ["rows", "parts", "moment"] (spAct "if") ∧ Binds K fd ["rows", "parts", "moment"] [] := by
  obtain ⟨fd, F⟩ := T.does_show.fn
  obtain ⟨fdW, Gshown_worth, bshown_worth⟩ := ok_shown_worth (P := P) (w := w) (base := base) T
  refine ⟨fd, F.ok scdoes_show (fun vs H Q E h => spAct_len h) (fun cdv A outer s H vs Q E hr h => ?_), F.binds fun _ _ _ _ _ _ us hl => match us, hl with | [_, _, _], _ => rfl⟩
  obtain ⟨a, p, m, f, n, d, rfl, hw, R, hn, hp, k⟩ := h
  have hu := hu_of hr
  obtain ⟨j, x, rfl⟩ : ∃ j x, d = .iff j x := by
    cases d with
    | put => cases hw
    | drop => cases hw
    | add => cases hw
    | iff j x => exact ⟨j, x, rfl⟩
  refine ⟨_, (pss_cons (ps_asg (pv 1) (pg_unl rfl (pgs_cons (pg_name (i := 3) scdoes_show.nd rfl (Or.inl rfl)) (pgs_cons (pg_name (i := 4) scdoes_show.nd rfl (Or.inl rfl)) pgs_nil))))
      (pss_one (ps_ret (pe_cmpR op_eq (pe_call Gshown_worth (hr.mono (by first | decide | omega)) rfl T.shown_worth.at_ T.shown_worth.kp bshown_worth .nil pass0 (pa_cons (pv 0) (pa_cons (pv 3) (pa_cons (pv 2) pa_nil)))) (pv 4) (nomark _))))), ?_⟩
  refine ⟨_, rfl, p, _, rfl, SqL.of hp, rfl, _, _, rfl, _, _, rfl, rfl, ?_⟩
  refine ⟨_, rfl, _, rfl, _, rfl, a, j, m, f, n, rfl, R, _, rfl, ?_⟩
  have kk := k H (Kp.refl _ _)
  refine ⟨?_, ?_⟩
  · cases x <;> cases seen m f j <;> rfl
  · rw [oV_eq]
    by_cases h : seen m f j = x
    · rw [decide_eq_true h]
      exact kk.2 f (by simp only [step, h, if_true]) (R.le (by omega))
    · rw [decide_eq_false h]
      exact kk.1 (by simp only [step, h, if_false])
end
end S02

set_option Elab.async false
set_option linter.all false
set_option maxRecDepth 100000
set_option maxHeartbeats 1000000
namespace S02
open PySem PySem.Spec PyProof.Rows L2 K5 SupX
/-- a comprehension over such a zip -/
theorem lc_zipM {K : PySem.W.Frag} {a : Addr} {sq : Hp → Prop} {xs ys : List V} {g : TG} {tt : TT} {te : TE} {vs : List Nat} {σ : L2.St} {H1 : Hp} {D : Addr} {Qd : Hp → Prop} (Pv : Nat → Hp → Prop) (h0 : Pv 0 (upd H1 D (.lst []))) (hq : ∀ i H, Pv i H → SqL K H a xs ∧ sq H)
    (hs : ∀ (i : Nat) (x y : V) (T : Addr) (H : Hp), xs[i]? = some x → ys[i]? = some y → Pv i H → H T = none → g (.ref T) (wipe σ vs) (upd H T (.tup [x, y])) fun σ2 H2 => wipe σ2 vs = wipe σ vs ∧ tt σ2 H2 fun b H3 =>
      if b = true then te σ2 H3 fun z H4 => ∃ acc, H4 D = some (.lst acc) ∧ acc.length < sizeLine ∧ Pv (i + 1) (upd H4 D (.lst (acc ++ [z]))) else Pv (i + 1) H3) (hd : ∀ H, Pv (min xs.length ys.length) H → Qd H) :
    ∃ W : Nat → Nat → Hp → Prop, (∃ m, W 0 m (upd H1 D (.lst []))) ∧ ∀ i m H, W i m H →
      ((ItM K a sq xs ys).stop i H ∧ Qd H) ∨ ((ItM K a sq xs ys).go i H ∧ ∃ Nx : Hp → Prop, (∀ H', Nx H' → ∃ m', m' < m ∧ W (i + 1) m' H') ∧ ∀ x H', (ItM K a sq xs ys).yld i H x H' → g x (wipe σ vs) H' fun σ2 H2 => wipe σ2 vs = wipe σ vs ∧ tt σ2 H2 fun b H3 =>
        if b = true then te σ2 H3 fun y H4 => ∃ acc, H4 D = some (.lst acc) ∧ acc.length < sizeLine ∧ Nx (upd H4 D (.lst (acc ++ [y]))) else Nx H3) := by
  refine ⟨fun i m H => m = min xs.length ys.length - i ∧ i ≤ min xs.length ys.length ∧ Pv i H, ⟨_, rfl, Nat.zero_le _, h0⟩, ?_⟩
  rintro i m H ⟨rfl, hi, p⟩
  obtain ⟨qx, qy⟩ := hq i H p
  by_cases lt : i < min xs.length ys.length
  · refine .inr ⟨⟨qx, qy, by omega, by omega⟩, Pv (i + 1), fun G p' => ⟨min xs.length ys.length - (i + 1), by omega, rfl, by omega, p'⟩, fun v G yl => ?_⟩
    obtain ⟨T, x, y, rfl, hT, rfl, e1, e2⟩ := yl
    exact hs i x y T H e1 e2 p hT
  · have e : i = min xs.length ys.length := by omega
    subst e
    exact .inl ⟨⟨qx, qy, by omega, by omega, by omega⟩, hd H p⟩
/-- a written tuple -/
def WT (K : PySem.W.Frag) (a : Addr) (xs : List V) : Prop := ∃ (o : Obj) (its : Array Value) (n : Nat), K.lookup a = some o ∧ o.cls = .type "tuple" ∧ o.data = .seq its n ∧ its.size ≤ sizeLine ∧ Vals xs its.toList
theorem WT.sq {K : PySem.W.Frag} {a : Addr} {xs : List V} (h : WT K a xs) (H : Hp) : SqT K H a xs := .inr h
def bnds : Dd → List (Int × Int)
  | .put .. => [(0, 31), (0, 999), (0, 1000)]
  | .drop .. => [(0, 31)]
  | .add .. => [(0, 31), (-999, 999)]
  | .iff .. => [(0, 31), (0, 999)]
def BndAt (K : PySem.W.Frag) (b : Addr) (l : List (Int × Int)) : Prop := ∃ as : List Addr, WT K b (as.map V.ref) ∧ Paired (fun a p => WT K a [.int p.1, .int p.2]) as l
/-- what the top has beside names -/
structure Ex (P : Program) (w : World) (K : PySem.W.Frag) (mg : Str → Option Value) (A : Ad) (B C fI : Addr) : Prop where
  bounds : mg "BOUNDS" = some (.ref B)
  bd : ∃ es n, KDict K w B es n
  bn : ∀ d : Dd, ∃ b, PySem.W.nsIn K B d.word = some (some (.ref b)) ∧ BndAt K b (bnds d)
  actions : mg "ACTIONS" = some (.ref C)
  cd : ∃ es n, K.lookup C = some ⟨.type "dict", none, .dict es n, #[]⟩ ∧ PySem.W.KeysLit w.params es.toList
  cp : PySem.W.nsIn K C "put" = some (some (.ref (A.d 37)))
  cr : PySem.W.nsIn K C "drop" = some (some (.ref (A.d 38)))
  ca : PySem.W.nsIn K C "add" = some (some (.ref (A.d 39)))
  ci : PySem.W.nsIn K C "if" = some (some (.ref (A.d 40)))
  init : InitAt P K (A.c 3) fI "BadDeal.__init__" s_BadDeal___init__
  cls : ClsAt K mg (A.c 3) "place"
section
variable {P : Program} {w : World} {K : PySem.W.Frag} {mg : Str → Option Value} {base : Heap} {A : Ad} {B C fI : Addr}
abbrev Nscis_deed : List Str := ["deed", "word", "parts", "bounds", "part", "low", "high"]
theorem scis_deed : FnScope Nscis_deed ["deed"] (defScope s_is_deed) := ⟨rfl, rfl, rfl, by decide +kernel, rfl, by decide +kernel, by decide +kernel⟩
def spDeed : Sp := fun vs H Q _ => ∃ (v : V) (d : Dd), vs = [v] ∧ DdAt H v d ∧ ∀ G, Kp No H G → Q (.bl d.ok) G
theorem ok_is_deed (T : Txt K mg A) (X : Ex P w K mg A B C fI) : ∃ fd, FnOk P w K mg base CX0 2 (A.d 33) fd ["deed"] spDeed ∧ Binds K fd ["deed"] [] := by
  obtain ⟨fd, F⟩ := T.is_deed.fn
  obtain ⟨fdI, Gwithin, bwithin⟩ := ok_within (P := P) (w := w) (base := base) T
  obtain ⟨es, n, hB⟩ := X.bd
  refine ⟨fd, F.ok scis_deed (fun vs H Q E h => ?_) (fun cdv A outer s H vs Q E hr h => ?_), F.binds fun _ _ _ _ _ _ us hl => match us, hl with | [_], _ => rfl⟩
  · obtain ⟨v, d, rfl, _⟩ := h
    rfl
  · obtain ⟨v, d, rfl, ⟨a, rfl, ha⟩, k⟩ := h
    have hu := hu_of hr
    refine ⟨_, (pss_cons (ps_if (PW.pt (pw_or (pt_not (pt_val (pe_callB call_isi (by rfl) T.isinstance (by decide +kernel) (pa_cons (pv 0) (pa_cons (pe_bltn (v := .ty "tuple") (by rfl) T.tuple (by decide +kernel) rfl) pa_nil))))) (pw_or (pt_not (pt_truth (pv 0) (by intro _; rfl))) (pw_or1 (pt_cmpR (op_notIn_kd hB) (pe_ix ix_tup (pv 0) pe_int (fun _ _ => rfl)) (pe_glob (v := .ref B) rfl X.bounds rfl) rfl)))))
        (pss_one (ps_ret pe_bl))
        pss_nil)
      (pss_cons (ps_asg (pv 0) (pg_star (n := 1) rfl (pgs_cons (pg_name (i := 1) scis_deed.nd rfl (Or.inl rfl)) (pgs_star (pg_name (i := 2) scis_deed.nd rfl (Or.inl rfl))))))
      (pss_cons (ps_set (i := 3) scis_deed.nd rfl (Or.inl rfl) (pe_ix ix_kdict (pe_glob (v := .ref B) rfl X.bounds rfl) (pv 1) (fun _ _ => rfl)))
      (pss_cons (ps_if (pt_cmpR op_ne (pe_callB call_len_seq (by rfl) T.len PySem.boot_len (pa_cons (pv 2) pa_nil)) (pe_callB call_len_seq (by rfl) T.len PySem.boot_len (pa_cons (pv 3) pa_nil)) (nomark _))
        (pss_one (ps_ret pe_bl))
        pss_nil)
      (pss_cons (ps_if (PW.pt (pw_and (pt_cmpR op_eq (pv 1) pe_str (nomark _)) (pw_and1 (pt_cmp (pc_isN (pe_ix ix_list (pv 2) pe_int (fun _ _ => rfl)))))))
        (pss_one (ps_ret (pe_call Gwithin (hr.mono (by first | decide | omega)) rfl T.within.at_ T.within.kp bwithin .nil pass0 (pa_cons (pe_ix ix_list (pv 2) pe_int (fun _ _ => rfl)) (pa_cons pe_int (pa_cons (pe_glob (v := .int 31) rfl T.k_LAST_KEY.choose_spec ⟨_, rfl⟩) pa_nil))))))
        pss_nil)
      (pss_one (ps_ret (pe_callB (cr_all rfl) (by rfl) T.all (by decide +kernel) (pa_cons (pe_lc (own := [("part", 4), ("low", 5), ("high", 6)]) (g := (gTup K 2 (gCons (gName 4) (gCons (gTup K 2 (gCons (gName 5) (gCons (gName 6) gNil))) gNil)))) (by rfl) scis_deed.nd (pi_zipM (by rfl) T.zip (pa_cons (pv 2) (pa_cons (pv 3) pa_nil))) (blkOk_by (N := Nscis_deed) (sc := defScope s_is_deed) (by decide +kernel)) (fun _ _ _ _ _ => pg_tup rfl (pgs_cons (pg_name (i := 4) scis_deed.nd rfl (Or.inl rfl)) (pgs_cons (pg_tup rfl (pgs_cons (pg_name (i := 5) scis_deed.nd rfl (Or.inl rfl)) (pgs_cons (pg_name (i := 6) scis_deed.nd rfl (Or.inl rfl)) pgs_nil))) pgs_nil))) (fun _ _ _ _ _ => pts_nil) (fun _ _ _ _ _ => (pe_call Gwithin (hr.mono (by first | decide | omega)) rfl T.within.at_ T.within.kp bwithin .nil pass0 (pa_cons (pv 4) (pa_cons (pv 5) (pa_cons (pv 6) pa_nil)))))) pa_nil))))))))), ?_⟩
    obtain ⟨b, hb, as, wb, pb⟩ := X.bn d
    have kd : KDct K w B d.word (.ref b) := ⟨es, n, _, hB.at_, hB.lit, hb, rfl⟩
    have hlen : as.length = d.parts.length := by
      rw [pb.length]
      cases d <;> rfl
    refine ⟨_, rfl, .ref a, _, _, _, true, rfl, .ty "tuple", .base (.tup ha), by rfl, true, rfl, iteF ?_⟩
    refine ⟨_, rfl, true, .inr (.inl ⟨_, SqT.of ha, rfl⟩), iteF ?_⟩
    refine ⟨_, rfl, a, _, 0, .str d.word, rfl, rfl, SqT.of ha, atI_nat (j := 0) rfl, d.word, _, rfl, rfl, hb, _, rfl, iteF ?_⟩
    refine ⟨_, rfl, a, _, rfl, SqT.of ha, (by show 1 ≤ d.vs.length; simp [Dd.vs]), (by cases d <;> simp [Dd.vs, Dd.parts]), fun L hL => ?_⟩
    refine ⟨_, _, rfl, _, _, rfl, rfl, ?_⟩
    refine ⟨_, rfl, B, d.word, .ref b, rfl, rfl, kd, ?_⟩
    refine ⟨_, rfl, L, _, rfl, .inl (SqL.of upd_same), _, rfl, b, _, rfl, .inr (wb.sq _), rfl, _, rfl, ?_⟩
    have e1 : (!decide (V.int ((List.drop 1 d.vs).length : Nat) = V.int ((as.map V.ref).length : Nat))) = false := by
      rw [List.length_map, hlen]
      simp [Dd.vs]
    rw [e1]
    refine iteF ?_
    have dp : List.drop 1 d.vs = d.parts := rfl
    rw [dp]
    -- all([..])
    have main : ∀ (ns : List Int) (σ : L2.St), d.parts = ns.map V.int → d.ok = ((ns.zip (bnds d)).map fun p => inB p.2.1 p.2.2 p.1).all id → σ[2]? = some (some (.ref L)) → σ[3]? = some (some (.ref b)) → σ.length = 7 →
        tRet (tCB (rAll K) (tCons (tLc (iZipM K (tCons (tVar 2) (tCons (tVar 3) tNil))) (gTup K 2 (gCons (gName 4) (gCons (gTup K 2 (gCons (gName 5) (gCons (gName 6) gNil))) gNil))) tYes
          (tCall spWithin [] E0 (tCons (tVar 4) (tCons (tVar 5) (tCons (tVar 6) tNil)))) [4, 5, 6]) tNil)) { nx := fun _ G => Q .non G, rt := Q } σ (upd H L (.lst d.parts)) := by
      intro ns σ hp hok h2 h3 h7
      obtain ⟨s0, s1, s2, s3, s4, s5, s6, rfl⟩ : ∃ s0 s1 s2 s3 s4 s5 s6, σ = [s0, s1, s2, s3, s4, s5, s6] := by
        match σ, h7 with
        | [s0, s1, s2, s3, s4, s5, s6], _ => exact ⟨_, _, _, _, _, _, _, rfl⟩
      cases h2
      cases h3
      have lz : ns.length = (bnds d).length := by
        have := congrArg List.length hp
        rw [List.length_map] at this
        rw [← this, ← hlen, pb.length]
      have hL1 : upd H L (.lst d.parts) L = some (.lst (ns.map V.int)) := by rw [upd_same, hp]
      refine ⟨_, rfl, _, rfl, L, b, ns.map V.int, as.map V.ref, rfl, SqL.of hL1, .inr ⟨wb.sq _, fun D hD => lc_zipM (fun i G => Kp (fun c => c = D) (upd H L (.lst d.parts)) G ∧ G D = some (.lst ((((ns.zip (bnds d)).map fun p => inB p.2.1 p.2.2 p.1).map V.bl).take i))) ⟨Kp.new hD, upd_same⟩ (fun i G ⟨kp, _⟩ => ⟨SqL.of (kp.t.lst hL1 (ne_of_none hL1 hD)), wb.sq _⟩) ?_ ?_⟩⟩
      · intro i x y T G hx hy ⟨kp, hG⟩ hT
        rw [List.getElem?_map] at hx hy
        cases ex : ns[i]? with
        | none => rw [ex] at hx; cases hx
        | some n0 =>
          cases ey : as[i]? with
          | none => rw [ey] at hy; cases hy
          | some a0 =>
            rw [ex] at hx
            rw [ey] at hy
            cases hx
            cases hy
            obtain ⟨q, hq, wq⟩ := paired_at pb ey
            have hD2 := (upd_ne (o := .tup [V.int n0, V.ref a0]) (ne_of_none hG hT)).trans hG
            refine ⟨T, _, rfl, SqT.of upd_same, rfl, _, _, rfl, _, _, rfl, ⟨a0, _, rfl, wq.sq _, rfl, _, _, rfl, _, _, rfl, rfl, rfl, rfl, ?_⟩⟩
            have hb2 : ((ns.zip (bnds d)).map fun p => inB p.2.1 p.2.2 p.1)[i]? = some (inB q.1 q.2 n0) := by
              rw [List.getElem?_map, List.getElem?_zip_eq_some (z := (n0, q)) |>.mpr ⟨ex, hq⟩]
              rfl
            refine ⟨_, rfl, _, rfl, _, rfl, .int n0, q.1, q.2, rfl, .inl ⟨n0, rfl, _, hD2, szL (by have : (bnds d).length ≤ 3 := (by cases d <;> simp [bnds]); simp only [List.length_take, List.length_map, List.length_zip]; omega), ?_⟩⟩
            refine ⟨(kp.andN hT).andL hD2 rfl, ?_⟩
            · rw [upd_same, take_snoc (x := V.bl (inB q.1 q.2 n0)) (by rw [List.getElem?_map, hb2]; rfl)]
      · intro G ⟨kp, hG⟩
        refine ⟨D, (ns.zip (bnds d)).map fun p => inB p.2.1 p.2.2 p.1, rfl, SqL.of ?_, ?_⟩
        · rw [hG, List.take_of_length_le (by simp only [List.length_map, List.length_zip]; rw [pb.length]; omega)]
        · rw [← hok]
          exact k G ((Kp.new hL).trans (kp_fresh (F' := No) kp fun c z => by rw [z]; exact hD) fun _ z => False.elim z)
    refine ⟨_, rfl, rfl, _, rfl, ?_⟩
    cases d with
    | put j wt l => exact iteF (iteF (main [j, wt, l] _ rfl (by simp [Dd.ok, bnds, inB]) rfl rfl rfl))
    | drop j => exact iteF (iteF (main [j] _ rfl (by simp [Dd.ok, bnds, inB]) rfl rfl rfl))
    | add j x => exact iteF (iteF (main [j, x] _ rfl (by simp [Dd.ok, bnds, inB]) rfl rfl rfl))
    | iff j x =>
      refine iteT ⟨_, rfl, L, _, 1, oV x, rfl, rfl, SqL.of upd_same, atI_nat (j := 1) rfl, _, rfl, ?_⟩
      cases x with
      | none =>
        refine iteT ⟨_, rfl, L, _, 0, .int j, rfl, rfl, SqL.of upd_same, atI_nat (j := 0) rfl, _, 0, 31, rfl, .inl ⟨j, rfl, ?_⟩⟩
        exact k _ (Kp.new hL)
      | some x => exact iteF (main [j, x] _ rfl (by simp [Dd.ok, bnds, inB]) rfl rfl rfl)
end
end S02

set_option Elab.async false
set_option linter.all false
set_option maxRecDepth 100000
set_option maxHeartbeats 1000000
namespace S02
open PySem PySem.Spec PyProof.Rows L2 K5 SupX
/-- the layer of defs that may raise: the exception's context is None -/
theorem okN {P : Program} {w : World} {K : PySem.W.Frag} {mg : Str → Option Value} {base : Heap} {x qual : Str} {st : Stmt} {f : Addr} {fd : FuncData} {N ps : List Str} {k : Nat} {sp : Sp} (F : Fun K x qual st f fd)
    (S : FnScope N ps (defScope st)) (len : ∀ vs H Q E, sp vs H Q E → vs.length = ps.length)
    (body : ∀ (cdv : Value) (A : Around) (outer : List Env) (s : Shared) (H : Hp) (vs : List V) (Q : VK) (E : XK), Room k (A.deeper (envOfC qual (defScope st) s.heap.objs.size f cdv)) → sp vs H Q E →
      ∃ t, PSs (cxOf (L2N.CX P w) P w K mg base N qual (defScope st) f cdv A outer s H E) (defBody st) t ∧ t { nx := fun _ G => Q .non G, rt := Q } (L2.start N vs) H) :
    FnOk P w K mg base (L2N.CX P w) (k + 1) f fd ps sp := by
  obtain ⟨oc, od, kV, doc, pm, an, cdv, ct, osl, rfl, lk, hcd⟩ := F.ex
  exact fn_of lk hcd S len fun A outer s H vs Q E hr hsp => body cdv A outer s H vs Q E hr hsp
theorem str_len (a b : Str) : (a ++ b).length = a.length + b.length := by
  show (a.cps ++ b.cps).size = _
  rw [Array.size_append]
  rfl
/-- how a refusal leaves -/
def ErX (A : Ad) (E : XK) (H : Hp) : Er → Prop
  | .hand => E (.ref (A.c 4)) none H
  | .key => E (.ref (A.c 7)) none H
  | .entry => E (.ref (A.c 9999)) none H
  | .deal p => ∀ d, H d = none → E (.ref (A.c 3)) (some d) (upd H d (.xd [("place", .int (p : Nat))]))
section
variable {P : Program} {w : World} {K : PySem.W.Frag} {mg : Str → Option Value} {base : Heap} {A : Ad} {B C fI : Addr}
theorem sccheck_hand : FnScope ["hand"] ["hand"] (defScope s_check_hand) := ⟨rfl, rfl, rfl, by decide +kernel, rfl, by decide +kernel, by decide +kernel⟩
def spCk (A : Ad) (hi : Int) (r : Er) : Sp := fun vs H Q E => ∃ n : Int, vs = [.int n] ∧ (inB 0 hi n = true → Q .non H) ∧ (inB 0 hi n = false → ErX A E H r)
theorem ok_check_hand (T : Txt K mg A) : ∃ fd, FnOk P w K mg base (L2N.CX P w) 2 (A.d 31) fd ["hand"] (spCk A 3 .hand) ∧ Binds K fd ["hand"] [] := by
  obtain ⟨fd, F⟩ := T.check_hand.fn
  obtain ⟨fdW, Gwithin, bwithin⟩ := ok_within (P := P) (w := w) (base := base) T
  refine ⟨fd, okN F sccheck_hand (fun vs H Q E h => ?_) (fun cdv Ar outer s H vs Q E hr h => ?_), F.binds fun _ _ _ _ _ _ us hl => match us, hl with | [_], _ => rfl⟩
  · obtain ⟨n, rfl, _⟩ := h
    rfl
  · obtain ⟨n, rfl, k1, k2⟩ := h
    refine ⟨_, (pss_one (ps_if (pt_not (pt_val (pe_call Gwithin (hr.mono (by first | decide | omega)) rfl T.within.at_ T.within.kp bwithin .nil pass0 (pa_cons (pv 0) (pa_cons pe_int (pa_cons (pe_glob (v := .int 3) rfl T.k_LAST_HAND.choose_spec ⟨_, rfl⟩) pa_nil))))))
        (pss_one (L2N.ps_raise rfl (L2N.takes_of rfl rfl rfl rfl) (L2N.pmk_own PySem.F.excBase_ValueError T.x_BadHand.ex T.x_BadHand.at_ T.x_BadHand.kp (raises_own T.x_BadHand.sb T.x_BadHand.ty) rfl)))
        pss_nil)), ?_⟩
    refine ⟨_, rfl, .int n, 0, 3, rfl, .inl ⟨n, rfl, _, rfl, ?_⟩⟩
    cases h : inB 0 3 n with
    | true => exact iteF (k1 h)
    | false => exact iteT (k2 h)
theorem sccheck_key : FnScope ["key"] ["key"] (defScope s_check_key) := ⟨rfl, rfl, rfl, by decide +kernel, rfl, by decide +kernel, by decide +kernel⟩
theorem ok_check_key (T : Txt K mg A) : ∃ fd, FnOk P w K mg base (L2N.CX P w) 2 (A.d 32) fd ["key"] (spCk A 31 .key) ∧ Binds K fd ["key"] [] := by
  obtain ⟨fd, F⟩ := T.check_key.fn
  obtain ⟨fdW, Gwithin, bwithin⟩ := ok_within (P := P) (w := w) (base := base) T
  refine ⟨fd, okN F sccheck_key (fun vs H Q E h => ?_) (fun cdv Ar outer s H vs Q E hr h => ?_), F.binds fun _ _ _ _ _ _ us hl => match us, hl with | [_], _ => rfl⟩
  · obtain ⟨n, rfl, _⟩ := h
    rfl
  · obtain ⟨n, rfl, k1, k2⟩ := h
    refine ⟨_, (pss_one (ps_if (pt_not (pt_val (pe_call Gwithin (hr.mono (by first | decide | omega)) rfl T.within.at_ T.within.kp bwithin .nil pass0 (pa_cons (pv 0) (pa_cons pe_int (pa_cons (pe_glob (v := .int 31) rfl T.k_LAST_KEY.choose_spec ⟨_, rfl⟩) pa_nil))))))
        (pss_one (L2N.ps_raise rfl (L2N.takes_of rfl rfl rfl rfl) (L2N.pmk_own PySem.F.excBase_ValueError T.x_BadKey.ex T.x_BadKey.at_ T.x_BadKey.kp (raises_own T.x_BadKey.sb T.x_BadKey.ty) rfl)))
        pss_nil)), ?_⟩
    refine ⟨_, rfl, .int n, 0, 31, rfl, .inl ⟨n, rfl, _, rfl, ?_⟩⟩
    cases h : inB 0 31 n with
    | true => exact iteF (k1 h)
    | false => exact iteT (k2 h)
/-! ### BadDeal's own __init__ -/
theorem sco_init : Sco "place" (defScope s_BadDeal___init__) := ⟨rfl, rfl, rfl, by decide +kernel, by decide +kernel, by decide +kernel, by decide +kernel, by decide +kernel, by decide +kernel⟩
theorem ok_init16 (T : Txt K mg A) (X : Ex P w K mg A B C fI) (htop : (P.main.scope.names.lookup ("super" : Str)).isSome = false) : ∃ fd, FnOk P w K mg base CX0 1 fI fd [("self" : Str), "place"] (spI (A.c 3) "place") ∧ Binds K fd [("self" : Str), "place"] [] := by
  refine ok_init X.init X.cls sco_init ⟨_, rfl, rfl⟩ rfl (fun Y hN hS => ?_) (fun env => ⟨_, rfl⟩) htop (by decide) (by decide) (fun kV doc pm an cl cdv ct us hl => ?_)
  · refine ⟨fun pins s σ H Q I ⟨v, h1, h2, h3⟩ => ?_⟩
    refine (pe_joined (.cons pe_str (.cons (pe_fmt (pe_var (i := 1) (x := "place") (by rw [hN]; rfl) (by rw [hS]; exact .inl (by decide +kernel)))) (.cons pe_str .nil)))).run pins s σ H Q I ?_
    obtain ⟨h2, h4⟩ := h2
    refine ⟨_, rfl, (by decide +kernel), _, h1, .inr ⟨v, rfl, h2, _, rfl, ?_, _, rfl, ?_, h3 _⟩⟩
    · rw [str_len]
      have : (Str.empty ++ ("no deal: its deed at " : Str)).length ≤ 100 := by decide +kernel
      exact sz _ (by omega)
    · rw [str_len, str_len]
      have : (Str.empty ++ ("no deal: its deed at " : Str)).length ≤ 100 := by decide +kernel
      have : (" is none" : Str).length ≤ 100 := by decide +kernel
      exact sz _ (by omega)
  · match us, hl with
    | [_, _], _ => rfl
theorem sm_small : ∀ p : Nat, p ≤ 4 → Sm (p : Int)
  | 0, _ => ⟨by decide, by decide +kernel⟩
  | 1, _ => ⟨by decide, by decide +kernel⟩
  | 2, _ => ⟨by decide, by decide +kernel⟩
  | 3, _ => ⟨by decide, by decide +kernel⟩
  | 4, _ => ⟨by decide, by decide +kernel⟩
  | n + 5, h => absurd h (by omega)
theorem badFrom_le {p : Nat} : ∀ {ds : List Dd} {i : Nat}, i ≤ 4 → badFrom i ds = some p → p ≤ 4
  | [], _, _, h => by cases h
  | d :: ds, i, hi, h => by
    unfold badFrom at h
    split at h
    · cases h
      exact hi
    · rename_i q
      exact badFrom_le (by omega) h
/-! ### check_deal -/
theorem sccheck_deal : FnScope ["deeds", "place", "deed"] ["deeds"] (defScope s_check_deal) := ⟨rfl, rfl, rfl, by decide +kernel, rfl, by decide +kernel, by decide +kernel⟩
def spCD (A : Ad) : Sp := fun vs H Q E => ∃ (v : V) (ds : List Dd), vs = [v] ∧ DsAt H v ds ∧ ∀ G, Kp No H G → (dealBad ds = none → Q .non G) ∧ ∀ p, dealBad ds = some p → ErX A E G (.deal p)
theorem ok_check_deal (T : Txt K mg A) (X : Ex P w K mg A B C fI) (htop : (P.main.scope.names.lookup ("super" : Str)).isSome = false) : ∃ fd, FnOk P w K mg base (L2N.CX P w) 3 (A.d 34) fd ["deeds"] (spCD A) ∧ Binds K fd ["deeds"] [] := by
  obtain ⟨fd, F⟩ := T.check_deal.fn
  obtain ⟨fdD, Gis_deed, bis_deed⟩ := ok_is_deed (P := P) (w := w) (base := base) T X
  obtain ⟨fdB, GB, bB⟩ := ok_init16 (P := P) (w := w) (base := base) T X htop
  refine ⟨fd, okN F sccheck_deal (fun vs H Q E h => ?_) (fun cdv Ar outer s H vs Q E hr h => ?_), F.binds fun _ _ _ _ _ _ us hl => match us, hl with | [_], _ => rfl⟩
  · obtain ⟨v, ds, rfl, _⟩ := h
    rfl
  · obtain ⟨v, ds, rfl, ⟨a, xs, rfl, ha, pa, hl⟩, k⟩ := h
    have hu := hu_of hr
    have tk : L2N.Takes (cxOf (L2N.CX P w) P w K mg base ["deeds", "place", "deed"] "check_deal" (defScope s_check_deal) (A.d 34) cdv Ar outer s H E) (fun cls d _ G => E cls d G) := L2N.takes_of rfl rfl rfl rfl
    refine ⟨_, (pss_cons (ps_if (pt_not (pt_truth (pv 0) (by intro _; rfl)))
        (pss_one (L2N.ps_raise rfl tk (pmk_sup X.cls X.init GB bB (hr.mono (by first | decide | omega)) rfl T.c_BadDeal pe_int)))
        pss_nil)
      (pss_one (ps_for PassesOwn.leaving rfl (pi_enT (by rfl) T.enumerate (pa_cons (pv 0) pa_nil)) (pg_tup rfl (pgs_cons (pg_name (i := 1) sccheck_deal.nd rfl (Or.inl rfl)) (pgs_cons (pg_name (i := 2) sccheck_deal.nd rfl (Or.inl rfl)) pgs_nil)))
        (pss_one (ps_if (PW.pt (pw_or (pt_cmpR op_eq (pv 1) (pe_glob (v := .int 4) rfl T.k_MOST_DEEDS.choose_spec ⟨_, rfl⟩) (nomark _)) (pw_or1 (pt_not (pt_val (pe_call Gis_deed (hr.mono (by first | decide | omega)) rfl T.is_deed.at_ T.is_deed.kp bis_deed .nil pass0 (pa_cons (pv 2) pa_nil)))))))
          (pss_one (L2N.ps_raise rfl tk (pmk_sup X.cls X.init GB bB (hr.mono (by first | decide | omega)) rfl T.c_BadDeal (pv 1))))
          pss_nil))))), ?_⟩
    have lx := pa.length
    refine ⟨_, rfl, !xs.isEmpty, .inr (.inl ⟨_, SqT.of ha, rfl⟩), ?_⟩
    cases ds with
    | nil =>
      cases pa
      refine iteT ⟨0, rfl, sm_small 0 (by omega), fun d hd => ?_⟩
      exact (k H (Kp.refl _ _)).2 0 rfl d hd
    | cons d0 ds0 =>
      cases xs with
      | nil => cases pa
      | cons x0 xs0 =>
      refine iteF ?_
      generalize hds : d0 :: ds0 = ds at *
      generalize hxs : x0 :: xs0 = xs at *
      have hb0 : dealBad ds = badFrom 0 ds := if_neg (by rw [← hds]; simp)
      rw [hb0] at k
      refine ⟨_, rfl, a, xs, rfl, .inr ⟨SqT.of ha, for_enT (fun i σ G => Kp No H G ∧ (∃ o1 o2, σ = [some (.ref a), o1, o2]) ∧ badFrom 0 ds = badFrom i (ds.drop i) ∧ i ≤ 4) ⟨Kp.refl _ _, ⟨none, none, rfl⟩, by rw [List.drop_zero], by omega⟩ (fun i σ G ⟨kp, _⟩ => SqT.of (kp.t.tup ha)) ?_ ?_⟩⟩
      · rintro i y U σ G hy ⟨kp, ⟨o1, o2, rfl⟩, hbd, h4⟩ hU
        obtain ⟨d, hd, dd⟩ := paired_at pa hy
        have dr : ds.drop i = d :: ds.drop (i + 1) := by
          obtain ⟨h1, h2⟩ := List.getElem?_eq_some_iff.mp hd
          rw [List.drop_eq_getElem_cons h1, h2]
        rw [dr] at hbd
        have kU : Kp No H (upd G U (.tup [.int (i : Nat), y])) := kp.andN hU
        have bad : (i = 4 ∨ d.ok = false) → badFrom 0 ds = some i := fun z => by rw [hbd]; unfold badFrom; rw [if_pos z]
        have raise : ∀ G2, Kp No H G2 → (i = 4 ∨ d.ok = false) → tMkS (A.c 3) "place" (tVar 1) [some (.ref a), some (.int (i : Nat)), some y] G2 (fun cls d H' => E cls d H') := fun G2 k2 z => ⟨_, rfl, i, rfl, sm_small i h4, fun e he => (k G2 k2).2 i (bad z) e he⟩
        refine ⟨U, _, rfl, SqT.of upd_same, rfl, _, _, rfl, _, _, rfl, rfl, ?_⟩
        refine ⟨_, rfl, rfl, _, rfl, ?_⟩
        by_cases e4 : i = 4
        · have : decide (V.int ((i : Nat) : Int) = V.int 4) = true := by rw [e4]; rfl
          rw [this]
          exact iteT (iteT (raise _ kU (.inl e4)))
        · have : decide (V.int ((i : Nat) : Int) = V.int 4) = false := by simp; omega
          rw [this]
          refine iteF ⟨_, rfl, y, d, rfl, dd.kt kU.t, fun G2 k2 => ⟨_, rfl, ?_⟩⟩
          have kp2 : Kp No H G2 := kU.trans k2 fun _ z => False.elim z
          cases hk : d.ok with
          | false => exact iteT (raise _ kp2 (.inr hk))
          | true =>
            refine iteF ⟨kp2, ⟨_, _, rfl⟩, ?_, by omega⟩
            rw [hbd]
            show badFrom i (d :: ds.drop (i + 1)) = _
            rw [badFrom, if_neg (by rw [hk]; simp [e4])]
      · rintro σ G ⟨kp, _, hbd, _⟩
        refine (k G kp).1 ?_
        rw [hbd, List.drop_of_length_le (by omega)]
        rfl
end
end S02

set_option Elab.async false
set_option linter.all false
set_option maxRecDepth 100000
set_option maxHeartbeats 1000000
namespace S02
open PySem PySem.Spec PyProof.Rows L2 K5 SupX
/-- a call of a local name that holds a def: the promise goes with the reading -/
def tCallHd (P : Program) (w : World) (K : PySem.W.Frag) (mg : Str → Option Value) (base : Heap) (k i : Nat) (t : TA) : TE := fun σ H Q => ∃ f sp, σ[i]? = some (some (.ref f)) ∧ Held P w K mg base k f sp ∧ t σ H fun vs H1 => sp vs H1 Q (fun _ _ _ => False)
theorem pe_callHd {X : Cx} {k i : Nat} {x : Str} {p pos : Pos} {e : Expr} {es : List Expr} {t : TA} (hr : Room k X.A) (hN : X.N[i]? = some x) (hv : Vis X.env.scope x) (ha : PA X (e :: es) t)
    (hdb : (x == ("__debug__" : Str)) = false := by decide) (hcd : (x == ("__classdict__" : Str)) = false := by decide)
    (he : starEach (e :: es) X.env = (false, eval e X.env) :: starEach es X.env := by rfl) (hpl : (backTo pos (starEach es X.env)).any (·.1) = false := by rfl) : PE X (.Call (.Name x p) (e :: es) [] pos) (tCallHd X.prog X.w X.K X.mg X.base k i t) := by
  refine ⟨fun pins s σ H Q I ⟨f, sp, hs, hh, ht⟩ => ?_⟩
  obtain ⟨fd, ps, F, hk, hb⟩ := hh.ex
  refine (pe_callL (i := i) (f := f) (sp := sp) (dvs := []) (E := fun _ _ _ => False) F hr hN hv hk hb .nil (fun _ _ _ _ _ _ _ z => z.elim) ha hdb hcd he hpl).run pins s σ H Q I ⟨hs, ?_⟩
  have e0 : (fun (vs : List V) (H1 : Hp) => sp (vs ++ []) H1 Q (fun _ _ _ => False)) = fun vs H1 => sp vs H1 Q (fun _ _ _ => False) := funext fun vs => funext fun H1 => by rw [List.append_nil]
  show t σ H (fun vs H1 => sp (vs ++ []) H1 Q (fun _ _ _ => False))
  rw [e0]
  exact ht
theorem steps_app {m : Int} {g : Rw} : ∀ {ds es : List Dd} {f : Rw}, steps m f ds = some g → steps m f (ds ++ es) = steps m g es
  | [], _, _, h => by
    cases h
    rfl
  | d :: ds, es, f, h => by
    unfold steps at h
    simp only [List.cons_append, steps]
    cases q : step m f d with
    | none => rw [q] at h; cases h
    | some f2 =>
      rw [q] at h
      exact steps_app h
section
variable {P : Program} {w : World} {K : PySem.W.Frag} {mg : Str → Option Value} {base : Heap} {A : Ad} {B C fI : Addr}
theorem act_held (T : Txt K mg A) (X : Ex P w K mg A B C fI) (d : Dd) : ∃ f, PySem.W.nsIn K C d.word = some (some (.ref f)) ∧ Held P w K mg base 3 f (spAct d.word) := by
  have to : ∀ {f : Addr} {fd : FuncData} {wd : Str}, FnOk P w K mg base CX0 3 f fd ["rows", "parts", "moment"] (spAct wd) → PySem.W.keepIn K (.ref f) = true → L2.Binds K fd ["rows", "parts", "moment"] [] → Held P w K mg base 3 f (spAct wd) := fun F k b => ⟨_, _, F, k, b⟩
  cases d with
  | put =>
    obtain ⟨fd, G, b⟩ := ok_put_row (P := P) (w := w) (base := base) T
    exact ⟨_, X.cp, to G T.put_row.kp b⟩
  | drop =>
    obtain ⟨fd, G, b⟩ := ok_drop_row (P := P) (w := w) (base := base) T
    exact ⟨_, X.cr, to G T.drop_row.kp b⟩
  | add =>
    obtain ⟨fd, G, b⟩ := ok_add_to_row (P := P) (w := w) (base := base) T
    exact ⟨_, X.ca, to G T.add_to_row.kp b⟩
  | iff =>
    obtain ⟨fd, G, b⟩ := ok_does_show (P := P) (w := w) (base := base) T
    exact ⟨_, X.ci, to G T.does_show.kp b⟩
theorem scrows_behind : FnScope ["rows", "deeds", "moment", "behind", "word", "parts", "action"] ["rows", "deeds", "moment"] (defScope s_rows_behind) := ⟨rfl, rfl, rfl, by decide +kernel, rfl, by decide +kernel, by decide +kernel⟩
def spRB : Sp := fun vs H Q _ => ∃ (a : Addr) (v : V) (m : Int) (f : Rw) (n : Nat) (ds : List Dd), vs = [.ref a, v, .int m] ∧ RwAt H a f n ∧ DsAt H v ds ∧ n + ds.length ≤ 15000 ∧
  ∀ G, Kp No H G → (steps m f ds = none → Q .non G) ∧ (∀ g b, steps m f ds = some g → H b = none → RwAt G b g (n + ds.length) → Q (.ref b) G)
theorem ok_rows_behind (T : Txt K mg A) (X : Ex P w K mg A B C fI) : ∃ fd, FnOk P w K mg base CX0 4 (A.d 42) fd ["rows", "deeds", "moment"] spRB ∧ Binds K fd ["rows", "deeds", "moment"] [] := by
  obtain ⟨fd, F⟩ := T.rows_behind.fn
  obtain ⟨es, en, hC, hlit⟩ := X.cd
  refine ⟨fd, F.ok scrows_behind (fun vs H Q E h => ?_) (fun cdv Ar outer s H vs Q E hr h => ?_), F.binds fun _ _ _ _ _ _ us hl => match us, hl with | [_, _, _], _ => rfl⟩
  · obtain ⟨a, v, m, f, n, ds, rfl, _⟩ := h
    rfl
  · obtain ⟨a, v, m, f, n, ds, rfl, R, ⟨u, xs, rfl, hu2, pa, hl⟩, hn, k⟩ := h
    have hu := hu_of hr
    refine ⟨_, (pss_cons (ps_set (i := 3) scrows_behind.nd rfl (Or.inl rfl) (pe_callTy call_dictD (by rfl) T.dict (by decide +kernel) (pa_cons (pv 0) pa_nil)))
      (pss_cons (ps_for PassesOwn.never rfl (pi_tup (pv 1)) (pg_star (n := 1) rfl (pgs_cons (pg_name (i := 4) scrows_behind.nd rfl (Or.inl rfl)) (pgs_star (pg_name (i := 5) scrows_behind.nd rfl (Or.inl rfl)))))
        (pss_cons (ps_set (i := 6) scrows_behind.nd rfl (Or.inl rfl) (pe_ix ix_kdict (pe_glob (v := .ref C) rfl X.actions rfl) (pv 4) (fun _ _ => rfl)))
        (pss_one (ps_if (pt_not (pt_val (pe_callHd (i := 6) (k := 3) (hr.mono (by first | decide | omega)) rfl (.inl rfl) (pa_cons (pv 3) (pa_cons (pv 5) (pa_cons (pv 2) pa_nil))))))
          (pss_one (ps_ret pe_non))
          pss_nil))))
      (pss_one (ps_ret (pv 3))))), ?_⟩
    obtain ⟨kvs, hd, hkl, hf⟩ := R
    refine ⟨_, rfl, a, kvs, rfl, .inl hd, fun b nb => ?_⟩
    have kb : Kp No H (upd H b (.dK kvs)) := Kp.new nb
    have R0 : RwAt (upd H b (.dK kvs)) b f n := ⟨kvs, upd_same, hkl, fun j => by
      have := hf j
      cases e : f j with
      | none => rw [e] at this; exact this
      | some p =>
        obtain ⟨w1, e1⟩ := p
        rw [e] at this
        obtain ⟨t, h1, h2⟩ := this
        exact ⟨t, h1, kb.t.tup h2⟩⟩
    refine ⟨_, rfl, u, rfl, ⟨_, SqT.of (kb.t.tup hu2)⟩, for_tup (K := K) (a := u) (xs := xs) (fun i σ G => Kp No H G ∧ (∃ o1 o2 o3, σ = [some (.ref a), some (.ref u), some (.int m), some (.ref b), o1, o2, o3]) ∧ ∃ g, steps m f (ds.take i) = some g ∧ RwAt G b g (n + i)) ⟨kb, ⟨none, none, none, rfl⟩, f, rfl, R0⟩ (fun i σ G _ ⟨kp, _⟩ => SqT.of (kp.t.tup hu2)) ?_ ?_⟩
    · rintro i x σ G hx ⟨kp, ⟨o1, o2, o3, rfl⟩, g, hg, Rg⟩
      obtain ⟨d, hd, t, rfl, ht⟩ := paired_at pa hx
      have hil : i < ds.length := (List.getElem?_eq_some_iff.mp hd).1
      have sp1 : ds = ds.take i ++ d :: ds.drop (i + 1) := by
        obtain ⟨h1, h2⟩ := List.getElem?_eq_some_iff.mp hd
        conv => lhs; rw [← List.take_append_drop i ds]
        rw [List.drop_eq_getElem_cons h1, h2]
      obtain ⟨f1, hf1, hh⟩ := act_held (P := P) (base := base) T X d
      refine ⟨t, _, rfl, SqT.of (kp.t.tup ht), (by show 1 ≤ d.vs.length; simp [Dd.vs]), (by cases d <;> simp [Dd.vs, Dd.parts]), fun L hL => ?_⟩
      refine ⟨_, _, rfl, _, _, rfl, rfl, ?_⟩
      refine ⟨_, rfl, C, d.word, .ref f1, rfl, rfl, ⟨es, en, _, hC, hlit, hf1, rfl⟩, ?_⟩
      have kL : Kp No H (upd G L (.lst d.parts)) := kp.andN hL
      refine ⟨f1, spAct d.word, rfl, hh, _, rfl, _, rfl, _, rfl, b, L, m, g, n + i, d, rfl, rfl, Rg.kt (Kp.new (F := No) hL).t (fun z => z), by omega, upd_same, fun G2 k2 => ⟨fun s0 => ?_, fun g2 s2 R2 => ?_⟩⟩
      · refine ⟨_, rfl, iteT ?_⟩
        refine (k G2 (kL.trans (F' := fun c => c = b) k2 fun c z => .inr (by rw [z]; exact nb))).1 ?_
        rw [sp1, steps_app hg]
        simp only [steps, s0]
      · refine ⟨_, rfl, iteF ⟨kL.trans (F' := fun c => c = b) k2 fun c z => .inr (by rw [z]; exact nb), ⟨_, _, _, rfl⟩, g2, ?_, R2⟩⟩
        rw [take_snoc hd, steps_app hg]
        simp only [steps, s2]
    · rintro σ G ⟨kp, ⟨o1, o2, o3, rfl⟩, g, hg, Rg⟩
      rw [pa.length, List.take_length] at hg
      rw [pa.length] at Rg
      exact ⟨_, rfl, (k G kp).2 g b hg nb Rg⟩
end
end S02

set_option Elab.async false
set_option linter.all false
set_option maxRecDepth 100000
set_option maxHeartbeats 4000000
/-! ### frames with tables that grow; a table of the program -/
namespace S02
open PySem PySem.Spec PyProof.Rows L2 K5 SupX GenX
def TbA (H : Hp) (P : Addr) : Prop := ∃ ps : Array Value, H P = some (.tbl ps) ∧ TriplesOk ps.toList
/-- all stays but what may change and lies in F; the tables in L are tables still -/
structure Kg (L : List Addr) (F : Addr → Prop) (H G : Hp) : Prop where
  st : ∀ b o, H b = some o → (Mu o → ¬ F b) → (b ∈ L ∧ (∃ ps, o = .tbl ps) ∧ ∃ qs, G b = some (.tbl qs)) ∨ G b = some o
  tb : ∀ P ∈ L, TbA H P → TbA G P
section
variable {L : List Addr} {F F' : Addr → Prop} {H G I : Hp}
theorem Kg.of (k : Kp F H G) : Kg L F H G := ⟨fun b o e n => .inr (k b o e n), fun P _ ⟨ps, e, t⟩ => ⟨ps, k _ _ e (fun m => nomatch m), t⟩⟩
theorem Kg.t (k : Kg L F H G) : Kt F H G := fun b o e t n => (k.st b o e n).elim (fun ⟨_, ⟨ps, z⟩, _⟩ => absurd z (t ps)) id
theorem Kg.trans (k : Kg L F H G) (l : Kg L F' G I) (s : ∀ b, F' b → F b ∨ H b = none) : Kg L F H I := by
  refine ⟨fun b o e n => ?_, fun P m t => l.tb P m (k.tb P m t)⟩
  rcases k.st b o e n with ⟨h1, h2, qs, h3⟩ | h
  · rcases l.st b _ h3 (fun m => nomatch m) with ⟨_, _, rs, h4⟩ | h4
    · exact .inl ⟨h1, h2, rs, h4⟩
    · exact .inl ⟨h1, h2, qs, h4⟩
  · exact l.st b o h fun m z => (s b z).elim (n m) fun q => by rw [q] at e; cases e
theorem Kg.sub (k : Kg L F H G) (s : ∀ b, F b → F' b) : Kg L F' H G := ⟨fun b o e n => k.st b o e fun m z => n m (s b z), k.tb⟩
theorem Kg.free {a : Addr} (k : Kg L F H G) (h : G a = none) (n : F a → H a = none) : H a = none := by
  by_cases f : F a
  · exact n f
  · cases e : H a with
    | none => rfl
    | some o =>
      rcases k.st a o e fun _ => f with ⟨_, _, qs, z⟩ | z
      · rw [h] at z; cases z
      · rw [h] at z; cases z
theorem Kg.fresh (k : Kg L F H G) (n : ∀ b, F b → H b = none) : Kg L F' H G := ⟨(fun b o e _ => k.st b o e fun _ z => by rw [n b z] at e; cases e), k.tb⟩
theorem Kg.refl (L : List Addr) (F : Addr → Prop) (H : Hp) : Kg L F H H := Kg.of (Kp.refl F H)
theorem Kg.tab {P : Addr} {ps qs : Array Value} (m : P ∈ L) (h : H P = some (.tbl ps)) (t : TriplesOk qs.toList) : Kg L F H (upd H P (.tbl qs)) := by
  refine ⟨fun b o e n => ?_, fun Q _ ⟨rs, e, t2⟩ => ?_⟩
  · by_cases z : b = P
    · subst z
      rw [h] at e
      cases e
      exact .inl ⟨m, ⟨ps, rfl⟩, qs, upd_same⟩
    · exact .inr ((upd_ne z).trans e)
  · by_cases z : Q = P
    · subst z
      exact ⟨qs, upd_same, t⟩
    · exact ⟨rs, (upd_ne z).trans e, t2⟩
def Tg (L : List Addr) (H : Hp) : Prop := ∀ P ∈ L, TbA H P
theorem Tg.kg (t : Tg L H) (k : Kg L F H G) : Tg L G := fun P m => k.tb P m (t P m)
theorem Tg.kp (t : Tg L H) (k : Kp F H G) : Tg L G := t.kg (Kg.of k)
end
/-! hands -/
abbrev Hn := Int → Option (Int × Int × Bool)
def Hn.set (f : Hn) (h : Int) (x : Int × Int × Bool) : Hn := fun j => if j = h then some x else f j
def HnV (H : Hp) (kvs : List (Key × V)) (f : Hn) : Prop := ∀ j : Int, match f j with
  | none => valV kvs (.inl j : Key) = none
  | some (x, num, b) => ∃ t, valV kvs (.inl j : Key) = some (.ref t) ∧ H t = some (.tup [.int x, .int num, .bl b])
/-- the keys are hands, each once -/
def HnK (kvs : List (Key × V)) (f : Hn) : Prop := (∃ ks : List Int, kvs.map (·.1) = ks.map Sum.inl ∧ ks.Nodup) ∧ ∀ j, f j ≠ none → 0 ≤ j ∧ j ≤ 3
def HnAt (H : Hp) (a : Addr) (f : Hn) (n : Nat) : Prop := ∃ kvs, H a = some (.dK kvs) ∧ kvs.length ≤ n ∧ HnK kvs f ∧ HnV H kvs f
theorem keys_put (kvs : List (Key × V)) (k : Key) (v : V) : (putK kvs k v).map (·.1) = if (valV kvs k).isSome = true then kvs.map (·.1) else kvs.map (·.1) ++ [k] := by
  unfold putK
  rw [valV_any]
  by_cases h : (valV kvs k).isSome = true
  · rw [if_pos h, if_pos h, List.map_map]
    refine List.map_congr_left fun p _ => ?_
    show (if p.1 = k then (p.1, v) else p).1 = p.1
    split <;> rfl
  · rw [if_neg h, if_neg h, List.map_append]
    rfl
theorem val_mem {kvs : List (Key × V)} {k : Key} : (valV kvs k).isSome = true ↔ k ∈ kvs.map (·.1) := by
  rw [← valV_any, List.any_eq_true]
  constructor
  · rintro ⟨p, hp, e⟩
    exact List.mem_map.mpr ⟨p, hp, of_decide_eq_true e⟩
  · intro h
    obtain ⟨p, hp, e⟩ := List.mem_map.mp h
    exact ⟨p, hp, decide_eq_true e⟩
theorem HnK.put {kvs : List (Key × V)} {f : Hn} {j : Int} {v : V} {x : Int × Int × Bool} (h : HnK kvs f) (h0 : 0 ≤ j) (h3 : j ≤ 3) : HnK (putK kvs (.inl j) v) (f.set j x) := by
  obtain ⟨⟨ks, e, nd⟩, r⟩ := h
  refine ⟨?_, fun i hi => ?_⟩
  · rw [keys_put]
    split
    · exact ⟨ks, e, nd⟩
    · rename_i hn
      refine ⟨ks ++ [j], by rw [e, List.map_append]; rfl, ?_⟩
      rw [List.nodup_append]
      refine ⟨nd, by simp, fun a ha b hb => ?_⟩
      rw [List.mem_singleton.mp hb]
      intro z
      apply hn
      rw [val_mem, e]
      exact List.mem_map.mpr ⟨a, ha, by rw [z]⟩
  · unfold Hn.set at hi
    by_cases z : i = j
    · rw [z]; exact ⟨h0, h3⟩
    · rw [if_neg z] at hi
      exact r i hi
/-- some dict -/
def GoAt (H : Hp) (a : Addr) (_ : Nat) : Prop := ∃ kvs, H a = some (.dK kvs)
/-! rows that tell the same at a moment -/
def shw (m : Int) (f : Rw) (k : Int) : Option (Int × Int) := match f k with
  | none => none
  | some x => if shB x.2 m = true then some x else none
def Sim (m : Int) (f g : Rw) : Prop := ∀ k, shw m f k = shw m g k
theorem Sim.refl (m : Int) (f : Rw) : Sim m f f := fun _ => rfl
theorem Sim.trans {m : Int} {f g h : Rw} (a : Sim m f g) (b : Sim m g h) : Sim m f h := fun k => (a k).trans (b k)
theorem seen_shw (m : Int) (f : Rw) (k : Int) : seen m f k = (shw m f k).map (·.1) := by
  unfold seen shw
  cases f k with
  | none => rfl
  | some x =>
    obtain ⟨w, e⟩ := x
    show (if shB e m = true then some w else none) = ((if shB e m = true then some (w, e) else none).map (·.1) : Option Int)
    split <;> rfl
theorem Sim.seen {m : Int} {f g : Rw} (s : Sim m f g) (k : Int) : S02.seen m f k = S02.seen m g k := by rw [seen_shw, seen_shw, s k]
theorem Sim.set {m : Int} {f g : Rw} (s : Sim m f g) (k : Int) (x : Option (Int × Int)) : Sim m (f.set k x) (g.set k x) := fun j => by
  unfold shw Rw.set
  by_cases e : j = k
  · rw [if_pos e, if_pos e]
  · rw [if_neg e, if_neg e]
    exact s j
/-- both none, or both there and alike -/
def SimO (m : Int) : Option Rw → Option Rw → Prop
  | none, none => True
  | some f, some g => Sim m f g
  | _, _ => False
theorem step_add (m : Int) (f : Rw) (k x : Int) : step m f (.add k x) = (match shw m f k with
  | none => none
  | some y => if inB 0 999 (y.1 + x) = true then some (f.set k (some (y.1 + x, y.2))) else none) := by
  show (match f k with
    | none => none
    | some (w, e) => if shB e m = true ∧ inB 0 999 (w + x) = true then some (f.set k (some (w + x, e))) else none) = _
  unfold shw
  cases q : f k with
  | none => rfl
  | some y =>
    obtain ⟨w, e⟩ := y
    show (if shB e m = true ∧ inB 0 999 (w + x) = true then some (f.set k (some (w + x, e))) else none) = (match (if shB e m = true then some (w, e) else none) with
      | none => none
      | some y => if inB 0 999 (y.1 + x) = true then some (f.set k (some (y.1 + x, y.2))) else none)
    by_cases h : shB e m = true
    · rw [if_pos h]
      by_cases g : inB 0 999 (w + x) = true
      · rw [if_pos ⟨h, g⟩]
        exact (if_pos g).symm
      · rw [if_neg fun z => g z.2]
        exact (if_neg g).symm
    · rw [if_neg h, if_neg fun z => h z.1]
theorem Sim.step {m : Int} {f g : Rw} (s : Sim m f g) (d : Dd) : SimO m (S02.step m f d) (S02.step m g d) := by
  cases d with
  | put k w l => exact s.set _ _
  | drop k => exact s.set _ _
  | add k x =>
    rw [step_add, step_add, s k]
    cases shw m g k with
    | none => exact trivial
    | some y =>
      show SimO m (if inB 0 999 (y.1 + x) = true then some _ else none) (if inB 0 999 (y.1 + x) = true then some _ else none)
      by_cases h : inB 0 999 (y.1 + x) = true
      · rw [if_pos h, if_pos h]
        exact s.set _ _
      · rw [if_neg h, if_neg h]
        exact trivial
  | iff k w =>
    show SimO m (if S02.seen m f k = w then some f else none) (if S02.seen m g k = w then some g else none)
    rw [s.seen k]
    by_cases h : S02.seen m g k = w
    · rw [if_pos h, if_pos h]
      exact s
    · rw [if_neg h, if_neg h]
      exact trivial
theorem Sim.steps {m : Int} : ∀ {ds : List Dd} {f g : Rw}, Sim m f g → SimO m (S02.steps m f ds) (S02.steps m g ds)
  | [], _, _, s => s
  | d :: ds, f, g, s => by
    have h := s.step d
    unfold S02.steps
    cases e1 : S02.step m f d with
    | none =>
      cases e2 : S02.step m g d with
      | none => exact trivial
      | some g' => rw [e1, e2] at h; exact h.elim
    | some f' =>
      cases e2 : S02.step m g d with
      | none => rw [e1, e2] at h; exact h.elim
      | some g' =>
        rw [e1, e2] at h
        exact Sim.steps (show Sim m f' g' from h)
theorem shB_le {e m n : Int} (h : m ≤ n) (q : shB e n = true) : shB e m = true := by
  rw [shB_t] at q ⊢
  omega
theorem shw_le {m n : Int} (h : m ≤ n) (f : Rw) (k : Int) : shw n f k = (shw m f k).filter fun x => shB x.2 n := by
  unfold shw
  cases f k with
  | none => rfl
  | some x =>
    by_cases q : shB x.2 n = true
    · simp only [q, shB_le h q, if_true, Option.filter_some]
    · by_cases r : shB x.2 m = true
      · simp only [q, r, if_true, if_false, Option.filter_some, Bool.false_eq_true]
      · simp only [q, r, if_false, Option.filter_none, Bool.false_eq_true]
theorem Sim.mono {m n : Int} {f g : Rw} (s : Sim m f g) (h : m ≤ n) : Sim n f g := fun k => by rw [shw_le h, shw_le h, s k]
/-- a row that has ended is let go -/
theorem Sim.drop {m : Int} {f : Rw} {k : Int} (h : shw m f k = none) : Sim m (f.set k none) f := fun j => by
  by_cases e : j = k
  · subst e
    rw [h]
    unfold shw Rw.set
    rw [if_pos rfl]
  · unfold shw Rw.set
    rw [if_neg e]
def RsAt (H : Hp) (a : Addr) (m : Int) (f : Rw) (n : Nat) : Prop := ∃ f', Sim m f' f ∧ RwAt H a f' n
section
variable {F : Addr → Prop} {H G : Hp} {a : Addr} {n m : Nat}
theorem HnV.kt (k : Kt F H G) {kvs : List (Key × V)} {f : Hn} (q : HnV H kvs f) : HnV G kvs f := fun j => by
  have := q j
  cases hf : f j with
  | none =>
    rw [hf] at this
    exact this
  | some p =>
    obtain ⟨x, num, b⟩ := p
    rw [hf] at this
    obtain ⟨t, h1, h2⟩ := this
    exact ⟨t, h1, k.tup h2⟩
theorem HnAt.kt (k : Kt F H G) {f : Hn} (h : HnAt H a f n) (nf : ¬ F a) : HnAt G a f n := by
  obtain ⟨kvs, e, l, q, v⟩ := h
  exact ⟨kvs, k.dK e nf, l, q, v.kt k⟩
theorem HnAt.le {f : Hn} (h : HnAt H a f n) (l : n ≤ m) : HnAt H a f m := let ⟨kvs, e, q, r⟩ := h; ⟨kvs, e, Nat.le_trans q l, r⟩
theorem HnAt.put {f : Hn} {kvs : List (Key × V)} {j x num : Int} {b : Bool} {t : Addr} (h : HnAt H a f n) (hd : H a = some (.dK kvs)) (h0 : 0 ≤ j) (h3 : j ≤ 3) (ht : H t = some (.tup [.int x, .int num, .bl b])) : HnAt (upd H a (.dK (putK kvs (.inl j) (.ref t)))) a (f.set j (x, num, b)) (n + 1) := by
  obtain ⟨kv2, e1, l, hk, q⟩ := h
  obtain rfl : kvs = kv2 := by rw [e1] at hd; cases hd; rfl
  have nt : ∀ {t : Addr} {xs : List V}, H t = some (.tup xs) → t ≠ a := fun h => ne_of h e1 (by intro z; cases z)
  refine ⟨_, upd_same, Nat.le_trans (length_putK _ _ _) (by omega), hk.put h0 h3, fun i => ?_⟩
  rw [valV_put]
  unfold Hn.set
  by_cases hj : i = j
  · rw [if_pos hj, if_pos (by rw [hj])]
    exact ⟨t, rfl, by rw [upd_ne (nt ht)]; exact ht⟩
  · rw [if_neg hj, if_neg (fun z => hj (Sum.inl.inj z))]
    have := q i
    cases hf : f i with
    | none =>
      rw [hf] at this
      exact this
    | some p =>
      obtain ⟨x', num', b'⟩ := p
      rw [hf] at this
      obtain ⟨t', h1, h2⟩ := this
      exact ⟨t', h1, by rw [upd_ne (nt h2)]; exact h2⟩
theorem HnAt.dc {f : Hn} (h : HnAt H a f n) : ∃ kvs, H a = some (.dK kvs) := let ⟨kvs, e, _⟩ := h; ⟨kvs, e⟩
theorem HnAt.copy {b : Addr} {f : Hn} {kvs : List (Key × V)} (R : HnAt H a f n) (hd : H a = some (.dK kvs)) (hb : G b = some (.dK kvs)) (k : Kt No H G) : HnAt G b f n := by
  obtain ⟨kv2, e1, l, hk, q⟩ := R
  obtain rfl : kvs = kv2 := by rw [e1] at hd; cases hd; rfl
  exact ⟨kvs, hb, l, hk, q.kt k⟩
theorem RwAt.dc {f : Rw} (h : RwAt H a f n) : ∃ kvs, H a = some (.dK kvs) := let ⟨kvs, e, _⟩ := h; ⟨kvs, e⟩
theorem RwAt.copy {b : Addr} {f : Rw} {kvs : List (Key × V)} (R : RwAt H a f n) (hd : H a = some (.dK kvs)) (hb : G b = some (.dK kvs)) (k : Kt No H G) : RwAt G b f n := by
  obtain ⟨kv2, e1, l, q⟩ := R
  obtain rfl : kvs = kv2 := by rw [e1] at hd; cases hd; rfl
  refine ⟨kvs, hb, l, fun j => ?_⟩
  have := q j
  cases e : f j with
  | none => rw [e] at this; exact this
  | some p =>
    obtain ⟨w1, e1⟩ := p
    rw [e] at this
    obtain ⟨t, h1, h2⟩ := this
    exact ⟨t, h1, k.tup h2⟩
theorem GoAt.kt (k : Kt F H G) (h : GoAt H a n) (nf : ¬ F a) : GoAt G a n := let ⟨kvs, e⟩ := h; ⟨kvs, k.dK e nf⟩
theorem GoAt.le (h : GoAt H a n) (_ : n ≤ m) : GoAt H a m := h
theorem GoAt.dc (h : GoAt H a n) : ∃ kvs, H a = some (.dK kvs) := h
theorem GoAt.up {b : Addr} {kvs ms : List (Key × V)} (h : GoAt H a n) (_ : H b = some (.dK kvs)) : GoAt (upd H b (.dK ms)) a m := by
  by_cases e : a = b
  · exact ⟨ms, by rw [e, upd_same]⟩
  · obtain ⟨ks, z⟩ := h
    exact ⟨ks, by rw [upd_ne e]; exact z⟩
theorem RsAt.kt {mo : Int} {f : Rw} (k : Kt F H G) (h : RsAt H a mo f n) (nf : ¬ F a) : RsAt G a mo f n := let ⟨f', s, R⟩ := h; ⟨f', s, R.kt k nf⟩
theorem RsAt.le {mo : Int} {f : Rw} (h : RsAt H a mo f n) (l : n ≤ m) : RsAt H a mo f m := let ⟨f', s, R⟩ := h; ⟨f', s, R.le l⟩
theorem RsAt.dc {mo : Int} {f : Rw} (h : RsAt H a mo f n) : ∃ kvs, H a = some (.dK kvs) := let ⟨_, _, R⟩ := h; R.dc
theorem RsAt.copy {mo : Int} {b : Addr} {f : Rw} {kvs : List (Key × V)} (h : RsAt H a mo f n) (hd : H a = some (.dK kvs)) (hb : G b = some (.dK kvs)) (k : Kt No H G) : RsAt G b mo f n := let ⟨f', s, R⟩ := h; ⟨f', s, R.copy hd hb k⟩
theorem RsAt.later {mo mo' : Int} {f : Rw} (h : RsAt H a mo f n) (l : mo ≤ mo') : RsAt H a mo' f n := let ⟨f', s, R⟩ := h; ⟨f', s.mono l, R⟩
end
structure TT where
  rows : Rw
  mom : Int
  num : Int
  hands : Hn
def TT.new : TT := ⟨fun _ => none, 0, 0, fun _ => none⟩
def tfl (n m : Int) (r h : Addr) : List (Str × V) := [("number", .int n), ("moment", .int m), ("rows", .ref r), ("hands", .ref h)]
section
variable (n m i : Int) (r h x : Addr)
theorem l_num : (tfl n m r h).lookup ("number" : Str) = some (.int n) := rfl
theorem l_mom : (tfl n m r h).lookup ("moment" : Str) = some (.int m) := rfl
theorem l_rows : (tfl n m r h).lookup ("rows" : Str) = some (.ref r) := rfl
theorem l_hands : (tfl n m r h).lookup ("hands" : Str) = some (.ref h) := rfl
theorem p_num : putF "number" (.int i) (tfl n m r h) = tfl i m r h := rfl
theorem p_mom : putF "moment" (.int i) (tfl n m r h) = tfl n i r h := rfl
theorem p_rows : putF "rows" (.ref x) (tfl n m r h) = tfl n m x h := rfl
theorem p_hands : putF "hands" (.ref x) (tfl n m r h) = tfl n m r x := rfl
end
/-- a Table at a; g is any dict -/
structure TabAt (A : Ad) (H : Hp) (a r h g : Addr) (t : TT) (n : Nat) : Prop where
  at_ : ∃ dx, H a = some (.ins (A.c 44) dx (tfl t.num t.mom r h))
  rows : RsAt H r t.mom t.rows n
  hands : HnAt H h t.hands n
  gone : GoAt H g n
  rh : r ≠ h
def tF (a r h g : Addr) : Addr → Prop := fun b => b = a ∨ b = r ∨ b = h ∨ b = g
theorem TabAt.kt {A : Ad} {F : Addr → Prop} {H G : Hp} (k : Kt F H G) {a r h g : Addr} {t : TT} {n : Nat} (T : TabAt A H a r h g t n) (nf : ∀ b, F b → ¬ tF a r h g b) : TabAt A G a r h g t n := by
  obtain ⟨dx, e⟩ := T.at_
  exact ⟨⟨dx, k.ins e fun z => nf _ z (.inl rfl)⟩, T.rows.kt k fun z => nf _ z (.inr (.inl rfl)), T.hands.kt k fun z => nf _ z (.inr (.inr (.inl rfl))), T.gone.kt k fun z => nf _ z (.inr (.inr (.inr rfl))), T.rh⟩
theorem TabAt.no {A : Ad} {H G : Hp} {a r h g : Addr} {t : TT} {n : Nat} (T : TabAt A H a r h g t n) (k : Kt No H G) : TabAt A G a r h g t n := T.kt k fun _ z => False.elim z
theorem TabAt.le {A : Ad} {H : Hp} {a r h g : Addr} {t : TT} {n m : Nat} (T : TabAt A H a r h g t n) (l : n ≤ m) : TabAt A H a r h g t m := ⟨T.at_, T.rows.le l, T.hands.le l, T.gone.le l, T.rh⟩
theorem TabAt.there {A : Ad} {H : Hp} {a r h g : Addr} {t : TT} {n : Nat} (T : TabAt A H a r h g t n) {b : Addr} (z : tF a r h g b) : ∃ o, H b = some o := by
  obtain ⟨dx, e⟩ := T.at_
  obtain ⟨_, e1⟩ := T.rows.dc
  obtain ⟨_, e2⟩ := T.hands.dc
  obtain ⟨_, e3⟩ := T.gone.dc
  rcases z with rfl | rfl | rfl | rfl
  · exact ⟨_, e⟩
  · exact ⟨_, e1⟩
  · exact ⟨_, e2⟩
  · exact ⟨_, e3⟩
/-! a page's rows -/
def RwV (H : Hp) (v : V) (x : Int × Int × Int) : Prop := ∃ t, v = .ref t ∧ H t = some (.tup [.int x.1, .int x.2.1, .int x.2.2])
def PgAt (H : Hp) (b : Addr) (l : List (Int × Int × Int)) : Prop := ∃ xs, H b = some (.tup xs) ∧ Paired (RwV H) xs l
theorem RwV.kt {F : Addr → Prop} {H G : Hp} (k : Kt F H G) {v : V} {x : Int × Int × Int} (h : RwV H v x) : RwV G v x := let ⟨t, e, q⟩ := h; ⟨t, e, k.tup q⟩
theorem PgAt.kt {F : Addr → Prop} {H G : Hp} (k : Kt F H G) {b : Addr} {l : List (Int × Int × Int)} (h : PgAt H b l) : PgAt G b l := let ⟨xs, e, p⟩ := h; ⟨xs, k.tup e, p.mono fun _ _ z => z.kt k⟩
/-- the row of a key, if there is one -/
def rowOf (f : Rw) (k : Int) : Option (Int × Int × Int) := (f k).map fun x => (k, x.1, x.2)
def keysFrom (lo : Int) (n : Nat) : List Int := (List.range n).map fun (i : Nat) => lo + i
def pgRows (f : Rw) (p : Int) : List (Int × Int × Int) := (keysFrom (p * 4) 4).filterMap (rowOf f)
theorem keysFrom_succ (lo : Int) (n : Nat) : keysFrom lo (n + 1) = keysFrom lo n ++ [lo + n] := by
  unfold keysFrom
  rw [List.range_succ, List.map_append]
  rfl
/-- a function object whose code object is known, with its promise -/
theorem okC {P : Program} {w : World} {K : PySem.W.Frag} {mg : Str → Option Value} {base : Heap} {x qual : Str} {st : Stmt} {f c : Addr} {N ps : List Str} {k : Nat} {sp : Sp} (F : FnC K x qual st f c)
    (S : FnScope N ps (defScope st)) (len : ∀ vs H Q E, sp vs H Q E → vs.length = ps.length)
    (body : ∀ (Ar : Around) (outer : List Env) (s : Shared) (H : Hp) (vs : List V) (Q : VK) (E : XK), Room k (Ar.deeper (envOfC qual (defScope st) s.heap.objs.size f (.ref c))) → sp vs H Q E →
      ∃ t, PSs (cxOf CX0 P w K mg base N qual (defScope st) f (.ref c) Ar outer s H E).nox (defBody st) t ∧ t { nx := fun _ G => Q .non G, rt := Q } (L2.start N vs) H)
    (hb : ∀ (kV doc pm : Value) (an : Option Addr) (ct : Value) (us : List Value), us.length = ps.length → bindArgs (PySem.W.fnOf x qual (defArgs st) (defBody st) (defScope st) .none kV doc pm an (.ref c) ct) ⟨us, []⟩ = pure (ps.zip us)) :
    ∃ fd, FnOk P w K mg base CX0 (k + 1) f fd ps sp ∧ Binds K fd ps [] := by
  obtain ⟨oc, od, kV, doc, pm, an, ct, osl, lk, hcd⟩ := F.ex
  refine ⟨_, fn_of lk hcd S len fun Ar outer s H vs Q E hr hsp => ?_, fun s us X hl => ?_⟩
  · obtain ⟨t, ht, q⟩ := body Ar outer s H vs Q E hr hsp
    exact ⟨t, ht.nox, q⟩
  · rw [List.append_nil] at hl ⊢
    exact BindsTo.of_eq (hb _ _ _ _ _ us hl)
/-- the tables of the four methods -/
structure TbsB (base : Heap) (mg : Str → Option Value) (A : Ad) (tp : Nat → Addr) : Prop where
  pr : GxR.TabB base mg (A.co 44 7) (tp 7)
  hr : GxR.TabB base mg (A.co 44 8) (tp 8)
  sh : GxR.TabB base mg (A.co 44 10) (tp 10)
def tL (tp : Nat → Addr) : List Addr := [tp 7, tp 8, tp 10]
section
variable {P : Program} {w : World} {K : PySem.W.Frag} {mg : Str → Option Value} {base : Heap} {A : Ad} {tp : Nat → Addr}
abbrev NscPr : List Str := ["self", "page", "first", "key"]
theorem scPr : FnScope NscPr ["self", "page"] (defScope s_Table_page_rows) := ⟨rfl, rfl, rfl, by decide +kernel, rfl, by decide +kernel, by decide +kernel⟩
def spPageRows (A : Ad) (tp : Nat → Addr) : Sp := fun vs H Q _ => ∃ (a r h g : Addr) (t : TT) (n : Nat) (p : Int), vs = [.ref a, .int p] ∧ TabAt A H a r h g t n ∧ Tg (tL tp) H ∧ 0 ≤ p ∧ p ≤ 8 ∧
  ∀ G b f, Sim t.mom f t.rows → H b = none → Kg (tL tp) No H G → PgAt G b (pgRows f p) → RwAt G r f n → Q (.ref b) G
theorem ok_page_rows (T : Txt K mg A) (TB : TbsB base mg A tp) : ∃ fd, FnOk P w K mg base CX0 5 (A.m 44 7) fd ["self", "page"] (spPageRows A tp) ∧ Binds K fd ["self", "page"] [] := by
  refine okC T.C_Table_page_rows scPr (fun vs H Q E h => ?_) (fun Ar outer s H vs Q E hr h => ?_) (fun _ _ _ _ _ us hl => match us, hl with | [_, _], _ => rfl)
  · obtain ⟨a, r, h, g, t, n, p, rfl, _⟩ := h
    rfl
  · obtain ⟨a, r, h, g, t, n, p, rfl, TA, TG, p0, p8, k⟩ := h
    have hu := hu_of hr
    refine ⟨_, pss_cons (ps_set (i := 2) scPr.nd rfl (Or.inl rfl) (pe_op op_mul (pv 1) (pe_glob (v := .int 4) rfl T.k_KEYS_OF_A_PAGE.choose_spec ⟨_, rfl⟩)))
      (pss_one (ps_ret (pe_tupG (k := 1) (pgen_gex (k := 0) (own := [("key", 3)]) (g := gName 3) (tt := tB (tDIn (tVar 3) (tFld K (tVar 0) "rows"))) (te := tTup (tCons (tVar 3) (StX.tStar K (tDGet (tFld K (tVar 0) "rows") (tVar 3)) tNil))) hr.hd (by have := hr.dp; show (Ar.deeper _).depth < _; omega) TB.pr rfl (blkOk_by (N := NscPr) (sc := defScope s_Table_page_rows) (by decide +kernel)) scPr.nd (by decide +kernel) rfl rfl
        (pi_range2 (by rfl) T.range (pa_cons (pv 2) (pa_cons (pe_op op_add (pv 2) (pe_glob (v := .int 4) rfl T.k_KEYS_OF_A_PAGE.choose_spec ⟨_, rfl⟩)) pa_nil))) (fun _ => rfl)
        (fun _ _ _ _ _ _ _ _ => pg_name (i := 3) scPr.nd rfl (Or.inl rfl)) (fun _ _ _ _ _ _ _ hr => by exact pts_one (pt_cmp (pc_din (hu_of hr) (pv 3) (pe_fld (pv 0) rfl)))) (fun _ _ _ _ _ _ _ hr => by exact pe_tup (pa_cons (pv 3) (StX.pa_star (pe_dget (hu_of hr) (pe_fld (pv 0) rfl) (pv 3) (fun _ _ => rfl)) pa_nil)))) (hr.mono (by decide)) rfl T.tuple))), ?_⟩
    have m7 : tp 7 ∈ tL tp := List.mem_cons_self
    obtain ⟨ps, hP, tri⟩ := TG _ m7
    obtain ⟨dx, ea⟩ := TA.at_
    refine ⟨_, rfl, _, _, rfl, rfl, .inr ⟨by decide, by decide⟩, _, rfl, _, rfl, _, _, rfl, rfl, p * 4, p * 4 + 4, rfl, ⟨by omega, by omega, by omega, by omega⟩, ps, hP, tri, fun qs tq => ?_⟩
    have e4 : (p * 4 + 4 - p * 4).toNat = 4 := by omega
    rw [e4]
    have kt : Kg (tL tp) No H (upd H (tp 7) (.tbl qs)) := Kg.tab m7 hP tq
    obtain ⟨f, sf, Rf⟩ := TA.rows
    refine gx_range (fun i ys J => Kg (tL tp) No H J ∧ ys.length ≤ i ∧ Paired (RwV J) ys ((keysFrom (p * 4) i).filterMap (rowOf f))) ⟨kt, Nat.le_refl _, .nil⟩ ?_ ?_
    · rintro i ys J hi ⟨kJ, hl, pJ⟩
      have TJ := TA.no kJ.t
      obtain ⟨dxJ, eJ⟩ := TJ.at_
      obtain ⟨kvs, hd, hkl, hf⟩ := Rf.kt kJ.t (fun z => False.elim z)
      have q := hf (p * 4 + i)
      have ks : (keysFrom (p * 4) (i + 1)).filterMap (rowOf f) = (keysFrom (p * 4) i).filterMap (rowOf f) ++ (match rowOf f (p * 4 + i) with | none => [] | some x => [x]) := by
        rw [keysFrom_succ, List.filterMap_append, List.filterMap_cons]
        cases rowOf f (p * 4 + i) <;> rfl
      refine ⟨rfl, _, rfl, _, rfl, a, A.c 44, dxJ, _, _, rfl, eJ, T.cl_Table, T.n_Table_rows, l_rows .., r, _, rfl, DGet.k (k := Sum.inl (p * 4 + i)) hd, _, rfl, ?_⟩
      cases e : f (p * 4 + i) with
      | none =>
        rw [e] at q
        rw [q]
        refine iteF ⟨kJ, Nat.le_succ_of_le hl, ?_⟩
        have : rowOf f (p * 4 + i) = none := by unfold rowOf; rw [e]; rfl
        rw [ks, this, List.append_nil]
        exact pJ
      | some x =>
        obtain ⟨wt, en⟩ := x
        rw [e] at q
        obtain ⟨u, q1, q2⟩ := q
        rw [q1]
        have dg : DGet J r (.int (p * 4 + i)) (some (.ref u)) := by
          have := DGet.k (k := Sum.inl (p * 4 + i)) hd
          rw [q1] at this
          exact this
        refine iteT ⟨_, rfl, _, rfl, a, A.c 44, dxJ, _, _, rfl, eJ, T.cl_Table, T.n_Table_rows, l_rows .., _, rfl, r, .ref u, rfl, dg, u, _, rfl, .inl (SqT.of q2), sz 3 (by decide), fun b nb => ⟨szL (by omega), (kJ.trans (Kg.of (Kp.new nb)) fun _ z => False.elim z), by rw [List.length_append]; simp only [List.length_cons, List.length_nil]; omega, ?_⟩⟩
        have : rowOf f (p * 4 + i) = some (p * 4 + i, wt, en) := by unfold rowOf; rw [e]; rfl
        rw [ks, this]
        exact (pJ.mono fun _ _ z => z.kt (Kp.new (F := No) nb).t).snoc ⟨b, rfl, upd_same⟩
    · rintro ys J ⟨kJ, hl, pJ⟩
      intro b nb
      exact k _ b f sf (kJ.free nb fun z => False.elim z) (kJ.trans (Kg.of (Kp.new nb)) fun _ z => False.elim z) ⟨ys, upd_same, pJ.mono fun _ _ z => z.kt (Kp.new (F := No) nb).t⟩ ((Rf.kt kJ.t fun z => False.elim z).kt (Kp.new (F := No) nb).t fun z => False.elim z)
end
end S02

set_option Elab.async false
set_option linter.all false
set_option maxRecDepth 100000
set_option maxHeartbeats 4000000
namespace S02
open PySem PySem.Spec PyProof.Rows L2 K5 SupX GenX
/-! a page's hands -/
def RhV (H : Hp) (v : V) (x : Int × Int × Int × Bool) : Prop := ∃ t, v = .ref t ∧ H t = some (.tup [.int x.1, .int x.2.1, .int x.2.2.1, .bl x.2.2.2])
def PhAt (H : Hp) (b : Addr) (l : List (Int × Int × Int × Bool)) : Prop := ∃ xs, H b = some (.tup xs) ∧ Paired (RhV H) xs l
theorem RhV.kt {F : Addr → Prop} {H G : Hp} (k : Kt F H G) {v : V} {x : Int × Int × Int × Bool} (h : RhV H v x) : RhV G v x := let ⟨t, e, q⟩ := h; ⟨t, e, k.tup q⟩
theorem PhAt.kt {F : Addr → Prop} {H G : Hp} (k : Kt F H G) {b : Addr} {l : List (Int × Int × Int × Bool)} (h : PhAt H b l) : PhAt G b l := let ⟨xs, e, p⟩ := h; ⟨xs, k.tup e, p.mono fun _ _ z => z.kt k⟩
def handOf (f : Hn) (h : Int) : Option (Int × Int × Int × Bool) := (f h).map fun x => (h, x.1, x.2.1, x.2.2)
def hnRows (f : Hn) : List (Int × Int × Int × Bool) := [0, 1, 2, 3].filterMap (handOf f)
theorem sorted_eq : ∀ {l m : List Int}, l.Pairwise (· < ·) → m.Pairwise (· < ·) → (∀ x, x ∈ l ↔ x ∈ m) → l = m
  | [], [], _, _, _ => rfl
  | [], y :: _, _, _, h => absurd ((h y).mpr List.mem_cons_self) (by simp)
  | x :: _, [], _, _, h => absurd ((h x).mp List.mem_cons_self) (by simp)
  | x :: l, y :: m, hl, hm, h => by
    have l1 := List.pairwise_cons.mp hl
    have m1 := List.pairwise_cons.mp hm
    have e : x = y := by
      rcases List.mem_cons.mp ((h x).mp List.mem_cons_self) with z | z
      · exact z
      · rcases List.mem_cons.mp ((h y).mpr List.mem_cons_self) with u | u
        · exact u.symm
        · have := m1.1 x z
          have := l1.1 y u
          omega
    subst e
    rw [sorted_eq l1.2 m1.2 fun z => ?_]
    constructor
    · intro hz
      rcases List.mem_cons.mp ((h z).mp (List.mem_cons_of_mem _ hz)) with u | u
      · have := l1.1 z hz
        omega
      · exact u
    · intro hz
      rcases List.mem_cons.mp ((h z).mpr (List.mem_cons_of_mem _ hz)) with u | u
      · have := m1.1 z hz
        omega
      · exact u
theorem inl_inj : ∀ {a b : List Int}, (a.map Sum.inl : List Key) = b.map Sum.inl → a = b
  | [], [], _ => rfl
  | [], _ :: _, h => by cases h
  | _ :: _, [], h => by cases h
  | x :: a, y :: b, h => by
    obtain ⟨h1, h2⟩ := List.cons.inj h
    rw [Sum.inl.inj h1, inl_inj h2]
theorem nodup_le : ∀ {l m : List Int}, l.Nodup → (∀ x ∈ l, x ∈ m) → l.length ≤ m.length
  | [], _, _, _ => Nat.zero_le _
  | x :: l, m, hn, hs => by
    have h1 := List.nodup_cons.mp hn
    have h2 : l.length ≤ (m.erase x).length := nodup_le h1.2 fun y hy => (List.mem_erase_of_ne fun z => by rw [z] at hy; exact h1.1 hy).mpr (hs y (List.mem_cons_of_mem _ hy))
    have hm := hs x List.mem_cons_self
    rw [List.length_erase_of_mem hm] at h2
    have : 0 < m.length := List.length_pos_of_mem hm
    rw [List.length_cons]
    omega
/-- the sorted keys of hands -/
theorem hn_keys {H : Hp} {kvs : List (Key × V)} {f : Hn} {ks ys : List Int} (hk : HnK kvs f) (hv : HnV H kvs f) (e : kvs.map (·.1) = ks.map Sum.inl) (p : ys.Perm ks) (s : ys.Pairwise (· ≤ ·)) : ys = [0, 1, 2, 3].filter fun h => (f h).isSome := by
  obtain ⟨⟨ks', e', nd⟩, r⟩ := hk
  have ek : ks' = ks := by
    have := e'.symm.trans e
    exact inl_inj this
  subst ek
  have ndy : ys.Nodup := p.nodup_iff.mpr nd
  have mem : ∀ j : Int, (f j).isSome = true ↔ j ∈ ks' := fun j => by
    have h1 : (valV kvs (.inl j : Key)).isSome = true ↔ j ∈ ks' := by
      rw [val_mem, e]
      constructor
      · intro h
        obtain ⟨a, ha, q⟩ := List.mem_map.mp h
        rw [← Sum.inl.inj q]
        exact ha
      · intro h
        exact List.mem_map.mpr ⟨j, h, rfl⟩
    rw [← h1]
    have := hv j
    cases hf : f j with
    | none =>
      rw [hf] at this
      have this : valV kvs (.inl j : Key) = none := this
      rw [this] <;> simp
    | some x =>
      obtain ⟨x, num, b⟩ := x
      rw [hf] at this
      obtain ⟨t, h2, _⟩ := this
      rw [h2] <;> simp
  refine sorted_eq ?_ (List.Pairwise.filter _ (by decide)) fun j => ?_
  · exact (List.pairwise_and_iff.mpr ⟨s, ndy⟩).imp fun {a b} z => by omega
  · rw [p.mem_iff, ← mem, List.mem_filter]
    constructor
    · intro h
      have := r j (fun z => by rw [z] at h; cases h)
      refine ⟨?_, h⟩
      simp only [List.mem_cons, List.not_mem_nil, or_false]
      omega
    · exact fun h => h.2
theorem filterMap_take {α β : Type} (f : α → Option β) {xs : List α} {i : Nat} {x : α} (h : xs[i]? = some x) : (xs.take (i + 1)).filterMap f = (xs.take i).filterMap f ++ (match f x with | none => [] | some y => [y]) := by
  rw [take_snoc h, List.filterMap_append, List.filterMap_cons]
  cases f x <;> rfl
theorem filterMap_filter (f : Hn) (l : List Int) : (l.filter fun h => (f h).isSome).filterMap (handOf f) = l.filterMap (handOf f) := by
  induction l with
  | nil => rfl
  | cons x l ih =>
    cases e : f x with
    | none =>
      rw [List.filter_cons_of_neg (by rw [e]; decide), ih, List.filterMap_cons]
      have : handOf f x = none := by unfold handOf; rw [e]; rfl
      rw [this]
    | some y =>
      rw [List.filter_cons_of_pos (by rw [e]; rfl), List.filterMap_cons, List.filterMap_cons, ih]
section
variable {P : Program} {w : World} {K : PySem.W.Frag} {mg : Str → Option Value} {base : Heap} {A : Ad} {tp : Nat → Addr}
abbrev NscHr : List Str := ["self", "hand"]
theorem scHr : FnScope NscHr ["self"] (defScope s_Table_hand_rows) := ⟨rfl, rfl, rfl, by decide +kernel, rfl, by decide +kernel, by decide +kernel⟩
def spHandRows (A : Ad) (tp : Nat → Addr) : Sp := fun vs H Q _ => ∃ (a r h g : Addr) (t : TT) (n : Nat), vs = [.ref a] ∧ TabAt A H a r h g t n ∧ Tg (tL tp) H ∧
  ∀ G b, H b = none → Kg (tL tp) No H G → PhAt G b (hnRows t.hands) → Q (.ref b) G
theorem ok_hand_rows (T : Txt K mg A) (TB : TbsB base mg A tp) : ∃ fd, FnOk P w K mg base CX0 5 (A.m 44 8) fd ["self"] (spHandRows A tp) ∧ Binds K fd ["self"] [] := by
  refine okC T.C_Table_hand_rows scHr (fun vs H Q E h => ?_) (fun Ar outer s H vs Q E hr h => ?_) (fun _ _ _ _ _ us hl => match us, hl with | [_], _ => rfl)
  · obtain ⟨a, r, h, g, t, n, rfl, _⟩ := h
    rfl
  · obtain ⟨a, r, h, g, t, n, rfl, TA, TG, k⟩ := h
    have hu := hu_of hr
    refine ⟨_, pss_one (ps_ret (pe_tupG (k := 1) (pgen_gex (k := 0) (own := [("hand", 1)]) (g := gName 1) (tt := tYes) (te := tTup (tCons (tVar 1) (StX.tStar K (tDGet (tFld K (tVar 0) "hands") (tVar 1)) tNil))) hr.hd (by have := hr.dp; show (Ar.deeper _).depth < _; omega) TB.hr rfl (blkOk_by (N := NscHr) (sc := defScope s_Table_hand_rows) (by decide +kernel)) scHr.nd (by decide +kernel) rfl rfl
        (pi_list (pe_callB (call_sortedDI (by rfl)) (by rfl) T.sorted (by decide +kernel) (pa_cons (pe_fld (pv 0) rfl) pa_nil))) (fun _ => rfl)
        (fun _ _ _ _ _ _ _ _ => pg_name (i := 1) scHr.nd rfl (Or.inl rfl)) (fun _ _ _ _ _ _ _ _ => pts_nil) (fun _ _ _ _ _ _ _ hr => by exact pe_tup (pa_cons (pv 1) (StX.pa_star (pe_dget (hu_of hr) (pe_fld (pv 0) rfl) (pv 1) (fun _ _ => rfl)) pa_nil)))) (hr.mono (by decide)) rfl T.tuple)), ?_⟩
    have m8 : tp 8 ∈ tL tp := List.mem_cons_of_mem _ List.mem_cons_self
    obtain ⟨dx, ea⟩ := TA.at_
    obtain ⟨kvs, hd, hkl, hk, hv⟩ := TA.hands
    have hk' := hk
    obtain ⟨⟨ks, e, nd⟩, hr3⟩ := hk'
    have hks : ks.length ≤ 4 := nodup_le (m := [0, 1, 2, 3]) nd fun j hj => by
      have h1 : (valV kvs (.inl j : Key)).isSome = true := by
        rw [val_mem, e]
        exact List.mem_map.mpr ⟨j, hj, rfl⟩
      have h2 := hr3 j fun z => by
        have := hv j
        rw [z] at this
        have this : valV kvs (.inl j : Key) = none := this
        rw [this] at h1
        cases h1
      simp only [List.mem_cons, List.not_mem_nil, or_false]
      omega
    refine ⟨_, rfl, a, A.c 44, dx, _, _, rfl, ea, T.cl_Table, T.n_Table_hands, l_hands .., h, kvs, ks, rfl, .inl hd, e, by omega, fun ys q perm srt nq => ?_⟩
    have eys := hn_keys hk hv e perm srt
    have k1 : Kp No H (upd H q (.lst (ys.map V.int))) := Kp.new nq
    obtain ⟨ps, hP, tri⟩ := (TG.kp k1) _ m8
    refine ⟨q, rfl, ⟨_, SqL.of upd_same⟩, ps, hP, tri, fun qs tq => ?_⟩
    have kt : Kg (tL tp) No H (upd (upd H q (.lst (ys.map V.int))) (tp 8) (.tbl qs)) := (Kg.of k1).trans (Kg.tab m8 hP tq) fun _ z => False.elim z
    have neq : q ≠ tp 8 := fun z => by rw [z, upd_same] at hP; cases hP
    have hq2 : upd (upd H q (.lst (ys.map V.int))) (tp 8) (.tbl qs) q = some (.lst (ys.map V.int)) := (upd_ne neq).trans upd_same
    generalize hG : upd (upd H q (.lst (ys.map V.int))) (tp 8) (.tbl qs) = G0 at kt hq2 ⊢
    refine gx_list (K := K) (a := q) (xs := ys.map V.int) (fun i zs J => Kg (tL tp) No H J ∧ J q = some (.lst (ys.map V.int)) ∧ zs.length ≤ i ∧ Paired (RhV J) zs ((ys.take i).filterMap (handOf t.hands))) ⟨kt, hq2, Nat.le_refl _, by rw [List.take_zero]; exact .nil⟩ (fun i zs J _ ⟨_, hJ, _⟩ => SqL.of hJ) ?_ ?_
    · rintro i x zs J hx ⟨kJ, hJ, hl, pJ⟩
      obtain ⟨j, hj, rfl⟩ : ∃ j, ys[i]? = some j ∧ x = V.int j := by
        rw [List.getElem?_map] at hx
        cases e : ys[i]? with
        | none => rw [e] at hx; cases hx
        | some j => rw [e] at hx; exact ⟨j, rfl, (Option.some.inj hx).symm⟩
      have TJ := TA.no kJ.t
      obtain ⟨dxJ, eJ⟩ := TJ.at_
      obtain ⟨kvJ, hdJ, _, _, hvJ⟩ := TJ.hands
      have hjs : (t.hands j).isSome = true := by
        have := List.mem_of_getElem? hj
        rw [eys] at this
        exact (List.mem_filter.mp this).2
      have q := hvJ j
      cases ef : t.hands j with
      | none => rw [ef] at hjs; cases hjs
      | some z =>
        obtain ⟨x, num, b⟩ := z
        rw [ef] at q
        obtain ⟨u, q1, q2⟩ := q
        have dg : DGet J h (.int j) (some (.ref u)) := by
          have := DGet.k (k := Sum.inl j) hdJ
          rw [q1] at this
          exact this
        refine ⟨rfl, _, rfl, _, rfl, a, A.c 44, dxJ, _, _, rfl, eJ, T.cl_Table, T.n_Table_hands, l_hands .., _, rfl, h, .ref u, rfl, dg, u, _, rfl, .inl (SqT.of q2), sz 4 (by decide), fun c nc => ⟨szL ?_, kJ.trans (Kg.of (Kp.new nc)) (fun _ z => False.elim z), (Kp.new (F := No) nc).t.lst hJ (fun z => z), by rw [List.length_append]; simp only [List.length_cons, List.length_nil]; omega, ?_⟩⟩
        · have h4 : ys.length ≤ 4 := by rw [perm.length_eq]; exact hks
          have : i < ys.length := (List.getElem?_eq_some_iff.mp hj).1
          omega
        · have : handOf t.hands j = some (j, x, num, b) := by unfold handOf; rw [ef]; rfl
          rw [filterMap_take _ hj, this]
          exact (pJ.mono fun _ _ z => z.kt (Kp.new (F := No) nc).t).snoc ⟨c, rfl, upd_same⟩
    · rintro zs J ⟨kJ, hJ, hl, pJ⟩
      rw [List.length_map, List.take_length, eys, filterMap_filter] at pJ
      intro b nb
      exact k _ b (kJ.free nb fun z => False.elim z) (kJ.trans (Kg.of (Kp.new nb)) fun _ z => False.elim z) ⟨zs, upd_same, pJ.mono fun _ _ z => z.kt (Kp.new (F := No) nb).t⟩
end
end S02

set_option Elab.async false
set_option linter.all false
set_option maxRecDepth 100000
set_option maxHeartbeats 4000000
namespace S02
open PySem PySem.Spec PyProof.Rows L2 K5 SupX GenX
/-! data, as it is compared, and as it weighs -/
theorem shaped_of {d : PyData} (h1 : d.canLay0 = true) (h2 : d.depth ≤ 64) : SeqAt.shaped d = true := by
  unfold SeqAt.shaped
  rw [h1, decide_eq_true h2]
  rfl
def Dt (K : PySem.W.Frag) (H : Hp) (n : Nat) (v : V) (d : PyData) : Prop := Dp K H v d ∧ d.canLay0 = true ∧ d.depth ≤ n
def DtA (K : PySem.W.Frag) (H : Hp) (n : Nat) (vs : List V) (ds : List PyData) : Prop := DpAll K H vs ds ∧ PyData.canLayAll0 ds = true ∧ PyData.depthAll ds ≤ n
section
variable {K : PySem.W.Frag} {H : Hp}
theorem Dt.int (n : Nat) (i : Int) : Dt K H n (.int i) (.int i) := ⟨.int i, by simp only [PyData.canLay0], by simp only [PyData.depth]; omega⟩
theorem Dt.bl (n : Nat) (b : Bool) : Dt K H n (.bl b) (.bool b) := ⟨.bl b, by simp only [PyData.canLay0], by simp only [PyData.depth]; omega⟩
theorem Dt.non (n : Nat) : Dt K H n .non .none := ⟨.non, by simp only [PyData.canLay0], by simp only [PyData.depth]; omega⟩
theorem Dt.str (n : Nat) (x : Str) (h : PyData.strOk x = true) : Dt K H n (.str x) (.str x) := ⟨.str x, by simpa only [PyData.canLay0] using h, by simp only [PyData.depth]; omega⟩
theorem DtA.nil (n : Nat) : DtA K H n [] [] := ⟨.nil, by simp only [PyData.canLayAll0], by simp only [PyData.depthAll]; omega⟩
theorem Dt.cons {n : Nat} {v : V} {vs : List V} {d : PyData} {ds : List PyData} (h : Dt K H n v d) (hs : DtA K H n vs ds) : DtA K H n (v :: vs) (d :: ds) :=
  ⟨.cons h.1 hs.1, by simp only [PyData.canLayAll0, h.2.1, hs.2.1, Bool.and_self], by simp only [PyData.depthAll]; exact Nat.max_le.mpr ⟨h.2.2, hs.2.2⟩⟩
theorem Dt.tup {n : Nat} {a : Addr} {xs : List V} {ds : List PyData} (e : H a = some (.tup xs)) (h : DtA K H n xs ds) : Dt K H (n + 1) (.ref a) (.tuple ds) :=
  ⟨.tup (SqT.of e) h.1, by simp only [PyData.canLay0]; exact h.2.1, by simp only [PyData.depth]; have := h.2.2; omega⟩
theorem Dt.lst {n : Nat} {a : Addr} {xs : List V} {ds : List PyData} (e : H a = some (.lst xs)) (h : DtA K H n xs ds) : Dt K H (n + 1) (.ref a) (.list ds) :=
  ⟨.lst (SqL.of e) h.1, by simp only [PyData.canLay0]; exact h.2.1, by simp only [PyData.depth]; have := h.2.2; omega⟩
theorem Dt.shaped {n : Nat} {v : V} {d : PyData} (h : Dt K H n v d) (hn : n ≤ 64) : SeqAt.shaped d = true := shaped_of h.2.1 (Nat.le_trans h.2.2 hn)
theorem Dt.same {n : Nat} {v : V} {d : PyData} (h : Dt K H n v d) : PyData.eqv d d = true := SeqAt.eqv_refl d h.2.1
theorem dt_all {α : Type} {R : V → α → Prop} {n : Nat} (h : ∀ v a, R v a → ∃ d, Dt K H n v d) {xs : List V} {ys : List α} (p : Paired R xs ys) : ∃ ds, DtA K H n xs ds := by
  induction p with
  | nil => exact ⟨_, DtA.nil n⟩
  | cons r _ ih =>
    obtain ⟨d, hd⟩ := h _ _ r
    obtain ⟨ds, hds⟩ := ih
    exact ⟨_, hd.cons hds⟩
theorem dt_rw {v : V} {x : Int × Int × Int} (h : RwV H v x) : ∃ d, Dt K H 1 v d := by
  obtain ⟨t, rfl, e⟩ := h
  exact ⟨_, Dt.tup e ((Dt.int 0 _).cons ((Dt.int 0 _).cons ((Dt.int 0 _).cons (DtA.nil 0))))⟩
theorem dt_rh {v : V} {x : Int × Int × Int × Bool} (h : RhV H v x) : ∃ d, Dt K H 1 v d := by
  obtain ⟨t, rfl, e⟩ := h
  exact ⟨_, Dt.tup e ((Dt.int 0 _).cons ((Dt.int 0 _).cons ((Dt.int 0 _).cons ((Dt.bl 0 _).cons (DtA.nil 0)))))⟩
end
/-- what is kept of a page -/
def KtAt (H : Hp) (b : Addr) : Prop := (∃ l, PgAt H b l ∧ l.length ≤ 4) ∨ ∃ m c l, H b = some (.tup [.int m, .ref c]) ∧ PhAt H c l ∧ l.length ≤ 4
theorem KtAt.kt {F : Addr → Prop} {H G : Hp} (k : Kt F H G) {b : Addr} (h : KtAt H b) : KtAt G b := by
  rcases h with ⟨l, h, z⟩ | ⟨m, c, l, e, h, z⟩
  · exact .inl ⟨l, h.kt k, z⟩
  · exact .inr ⟨m, c, l, k.tup e, h.kt k, z⟩
theorem dt_kt {K : PySem.W.Frag} {H : Hp} {b : Addr} (h : KtAt H b) : ∃ d, Dt K H 3 (.ref b) d := by
  rcases h with ⟨l, ⟨xs, e, p⟩, z⟩ | ⟨m, c, l, e, ⟨xs, e2, p⟩, z⟩
  · obtain ⟨ds, hd⟩ := dt_all (K := K) (fun v a z => dt_rw z) p
    exact ⟨_, (Dt.tup e hd).1, (Dt.tup e hd).2.1, Nat.le_trans (Dt.tup e hd).2.2 (by decide)⟩
  · obtain ⟨ds, hd⟩ := dt_all (K := K) (fun v a z => dt_rh z) p
    exact ⟨_, Dt.tup e ((Dt.int 2 m).cons ((Dt.tup e2 hd).cons (DtA.nil 2)))⟩
theorem pg_len (f : Rw) (p : Int) : (pgRows f p).length ≤ 4 := by
  unfold pgRows keysFrom
  exact Nat.le_trans (List.length_filterMap_le _ _) (by simp)
theorem hn_len (f : Hn) : (hnRows f).length ≤ 4 := Nat.le_trans (List.length_filterMap_le _ _) (by decide)
section
variable {P : Program} {w : World} {K : PySem.W.Frag} {mg : Str → Option Value} {base : Heap} {A : Ad} {tp : Nat → Addr}
abbrev NscKp : List Str := ["self", "page"]
theorem scKp : FnScope NscKp ["self", "page"] (defScope s_Table_kept) := ⟨rfl, rfl, rfl, by decide +kernel, rfl, by decide +kernel, by decide +kernel⟩
def spKept (A : Ad) (tp : Nat → Addr) : Sp := fun vs H Q _ => ∃ (a r h g : Addr) (t : TT) (n : Nat) (p : Int), vs = [.ref a, .int p] ∧ TabAt A H a r h g t n ∧ Tg (tL tp) H ∧ 0 ≤ p ∧ p ≤ 8 ∧
  ∀ G b, H b = none → Kg (tL tp) No H G → KtAt G b → Q (.ref b) G
theorem ok_kept (T : Txt K mg A) (TB : TbsB base mg A tp) : ∃ fd, FnOk P w K mg base CX0 6 (A.m 44 9) fd ["self", "page"] (spKept A tp) ∧ Binds K fd ["self", "page"] [] := by
  obtain ⟨fdP, G_Table_page_rows, b_Table_page_rows⟩ := ok_page_rows (P := P) (w := w) (base := base) T TB
  obtain ⟨fdH, G_Table_hand_rows, b_Table_hand_rows⟩ := ok_hand_rows (P := P) (w := w) (base := base) T TB
  obtain ⟨fd, F⟩ := T.m_Table_kept.fn
  refine ⟨fd, F.ok scKp (fun vs H Q E h => ?_) (fun cdv Ar outer s H vs Q E hr h => ?_), F.binds fun _ _ _ _ _ _ us hl => match us, hl with | [_, _], _ => rfl⟩
  · obtain ⟨a, r, h, g, t, n, p, rfl, _⟩ := h
    rfl
  · obtain ⟨a, r, h, g, t, n, p, rfl, TA, TG, p0, p8, k⟩ := h
    have hu := hu_of hr
    refine ⟨_, (pss_cons (ps_if (pt_cmpR op_eq (pv 1) (pe_glob (v := .int 8) rfl T.k_HANDS_PAGE.choose_spec ⟨_, rfl⟩) (nomark _))
        (pss_one (ps_ret (pe_tup (pa_cons (pe_fld (pv 0) rfl) (pa_cons (pe_meth0 (pv 0) T.cl_Table T.m_Table_hand_rows.me G_Table_hand_rows (hr.mono (by first | decide | omega)) b_Table_hand_rows .nil pass0) pa_nil)))))
        pss_nil)
      (pss_one (ps_ret (pe_meth (pv 0) T.cl_Table T.m_Table_page_rows.me G_Table_page_rows (hr.mono (by first | decide | omega)) b_Table_page_rows .nil pass0 (pa_cons (pv 1) pa_nil))))), ?_⟩
    obtain ⟨dx, ea⟩ := TA.at_
    refine ⟨_, rfl, rfl, _, rfl, ite2 (fun z => ?_) (fun z => ?_)⟩
    · refine ⟨_, rfl, a, A.c 44, dx, _, _, rfl, ea, T.cl_Table, T.n_Table_moment, l_mom .., _, rfl, a, dx, _, rfl, ea, rfl, a, r, h, g, t, n, rfl, TA, TG, fun G1 c nc kg hph => ⟨sz 2 (by decide), fun b nb => ?_⟩⟩
      exact k _ b (kg.free nb fun z => False.elim z) (kg.trans (Kg.of (Kp.new nb)) fun _ z => False.elim z) (.inr ⟨_, c, _, upd_same, hph.kt (Kp.new (F := No) nb).t, hn_len _⟩)
    · refine ⟨_, rfl, a, dx, _, rfl, ea, rfl, _, rfl, a, r, h, g, t, n, p, rfl, TA, TG, p0, p8, fun G1 c f _ nc kg hpg _ => ?_⟩
      exact k _ c nc kg (.inl ⟨_, hpg, pg_len _ _⟩)
end
end S02

set_option Elab.async false
set_option linter.all false
set_option maxRecDepth 100000
set_option maxHeartbeats 4000000
namespace S02
open PySem PySem.Spec PyProof.Rows L2 K5 SupX GenX
theorem pe_never {X : Cx} {e : Expr} : PE X e (fun _ _ _ => False) := ⟨fun _ _ _ _ _ _ h => False.elim h⟩
/-! a comprehension of two fors: over a range, over a tuple -/
/-- the inner turns -/
def In1 (J1 : It) (g1 : TG) (tt1 : L2.TT) (te : TE) (vs1 : List Nat) (σ2 : L2.St) (D : Addr) (N : Hp → Prop) (H4 : Hp) : Prop := ∃ W1 : Nat → Nat → Hp → Prop, (∃ m, W1 0 m H4) ∧ ∀ j k H, W1 j k H →
  (J1.stop j H ∧ N H) ∨ (J1.go j H ∧ ∃ Nx1 : Hp → Prop, (∀ H', Nx1 H' → ∃ k', k' < k ∧ W1 (j + 1) k' H') ∧ ∀ x H', J1.yld j H x H' → g1 x (wipe σ2 vs1) H' fun σ3 H5 => wipe σ3 vs1 = wipe σ2 vs1 ∧ tt1 σ3 H5 fun b H6 =>
    if b = true then te σ3 H6 fun y H7 => ∃ acc, H7 D = some (.lst acc) ∧ acc.length < sizeLine ∧ Nx1 (upd H7 D (.lst (acc ++ [y]))) else Nx1 H6)
theorem in_tup {K : PySem.W.Frag} {a : Addr} {xs : List V} {g1 : TG} {tt1 : L2.TT} {te : TE} {vs1 : List Nat} {σ2 : L2.St} {D : Addr} {N : Hp → Prop} {H4 : Hp} (Pv : Nat → Hp → Prop) (h0 : Pv 0 H4) (hl : ∀ i H, i ≤ xs.length → Pv i H → SqT K H a xs)
    (hs : ∀ i x H, xs[i]? = some x → Pv i H → g1 x (wipe σ2 vs1) H fun σ3 H5 => wipe σ3 vs1 = wipe σ2 vs1 ∧ tt1 σ3 H5 fun b H6 => if b = true then te σ3 H6 fun y H7 => ∃ acc, H7 D = some (.lst acc) ∧ acc.length < sizeLine ∧ Pv (i + 1) (upd H7 D (.lst (acc ++ [y]))) else Pv (i + 1) H6)
    (hd : ∀ H, Pv xs.length H → N H) : In1 (Itt K a) g1 tt1 te vs1 σ2 D N H4 := by
  refine ⟨fun i m H => m = xs.length - i ∧ i ≤ xs.length ∧ Pv i H, ⟨xs.length, by simp, Nat.zero_le _, h0⟩, ?_⟩
  rintro i m H ⟨rfl, hi, p⟩
  have q := hl i H hi p
  by_cases hlt : i < xs.length
  · refine .inr ⟨⟨xs, xs[i], q, by simp [hlt]⟩, Pv (i + 1), fun H' p' => ⟨xs.length - (i + 1), by omega, rfl, hlt, p'⟩, fun x H' y => ?_⟩
    obtain ⟨e, y⟩ := y
    subst e
    exact hs i x _ (y xs q) p
  · have e : i = xs.length := by omega
    subst e
    exact .inl ⟨⟨xs, q, Nat.le_refl _⟩, hd H p⟩
theorem rng2 {lo : Int} {n : Nat} {g : TG} {tt : L2.TT} {wi1 : TI} {g1 : TG} {tt1 : L2.TT} {te : TE} {vs vs1 : List Nat} {σ : L2.St} {H1 : Hp} {D : Addr} {Qd : Hp → Prop} (Pv : Nat → Hp → Prop) (h0 : Pv 0 (upd H1 D (.lst [])))
    (hs : ∀ i H, i < n → Pv i H → g (.int (lo + i)) (wipe σ vs) H fun σ2 H2 => wipe σ2 vs = wipe σ vs ∧ tt σ2 H2 fun b H3 => if b = true then wi1 σ2 H3 fun J1 H4 => In1 J1 g1 tt1 te vs1 σ2 D (Pv (i + 1)) H4 else Pv (i + 1) H3) (hd : ∀ H, Pv n H → Qd H) :
    ∃ W : Nat → Nat → Hp → Prop, (∃ m, W 0 m (upd H1 D (.lst []))) ∧ ∀ i m H, W i m H →
      ((Itr lo n).stop i H ∧ Qd H) ∨ ((Itr lo n).go i H ∧ ∃ Nx : Hp → Prop, (∀ H', Nx H' → ∃ m', m' < m ∧ W (i + 1) m' H') ∧ ∀ x H', (Itr lo n).yld i H x H' → g x (wipe σ vs) H' fun σ2 H2 => wipe σ2 vs = wipe σ vs ∧ tt σ2 H2 fun b H3 =>
        if b = true then wi1 σ2 H3 fun J1 H4 => In1 J1 g1 tt1 te vs1 σ2 D Nx H4 else Nx H3) := by
  refine ⟨fun i m H => m = n - i ∧ i ≤ n ∧ Pv i H, ⟨n, by simp, Nat.zero_le _, h0⟩, ?_⟩
  rintro i m H ⟨rfl, hi, p⟩
  by_cases h : i < n
  · refine .inr ⟨h, Pv (i + 1), fun H' p' => ⟨n - (i + 1), by omega, rfl, h, p'⟩, fun x H' y => ?_⟩
    obtain ⟨e, y⟩ := y
    subst e y
    exact hs i _ h p
  · have e : i = n := by omega
    subst e
    exact .inl ⟨Nat.le_refl _, hd H p⟩
def shF (m : Int) (x : Int × Int × Int) : Bool := shB x.2.2 m
theorem row_shw (m : Int) (f : Rw) (k : Int) : (rowOf f k).filter (shF m) = (shw m f k).map fun x => (k, x.1, x.2) := by
  unfold rowOf shw
  cases f k with
  | none => rfl
  | some x =>
    show (if shB x.2 m = true then some (k, x.1, x.2) else none) = (if shB x.2 m = true then some x else none).map fun x => (k, x.1, x.2)
    by_cases h : shB x.2 m = true
    · rw [if_pos h, if_pos h]
      rfl
    · rw [if_neg h, if_neg h]
      rfl
theorem rows_shw (m : Int) (f : Rw) (ks : List Int) : (ks.filterMap (rowOf f)).filter (shF m) = ks.filterMap fun k => (shw m f k).map fun x => (k, x.1, x.2) := by
  rw [List.filter_filterMap]
  exact congrArg (fun h => List.filterMap h ks) (funext fun k => row_shw m f k)
theorem Sim.page {m : Int} {f g : Rw} (s : Sim m f g) (p : Int) : (pgRows f p).filter (shF m) = (pgRows g p).filter (shF m) := by
  unfold pgRows
  rw [rows_shw, rows_shw]
  exact congrArg (fun h => List.filterMap h _) (funext fun k => by rw [s k])
section
variable {P : Program} {w : World} {K : PySem.W.Frag} {mg : Str → Option Value} {base : Heap} {A : Ad} {tp : Nat → Addr}
abbrev NscSh : List Str := ["self", "page", "row"]
theorem scSh : FnScope NscSh ["self", "page"] (defScope s_Table_shown) := ⟨rfl, rfl, rfl, by decide +kernel, rfl, by decide +kernel, by decide +kernel⟩
def spShownM (A : Ad) (tp : Nat → Addr) : Sp := fun vs H Q _ => ∃ (a r h g : Addr) (t : TT) (n : Nat) (p : Int), vs = [.ref a, .int p] ∧ TabAt A H a r h g t n ∧ Tg (tL tp) H ∧ 0 ≤ p ∧ p ≤ 7 ∧
  ∀ G b, H b = none → Kg (tL tp) No H G → PgAt G b ((pgRows t.rows p).filter (shF t.mom)) → Q (.ref b) G
theorem ok_shown (T : Txt K mg A) (TB : TbsB base mg A tp) : ∃ fd, FnOk P w K mg base CX0 6 (A.m 44 10) fd ["self", "page"] (spShownM A tp) ∧ Binds K fd ["self", "page"] [] := by
  obtain ⟨fdP, Gpr, bpr⟩ := ok_page_rows (P := P) (w := w) (base := base) T TB
  obtain ⟨fdS, Gis, bis⟩ := ok_is_shown (P := P) (w := w) (base := base) T
  refine okC T.C_Table_shown scSh (fun vs H Q E h => ?_) (fun Ar outer s H vs Q E hr h => ?_) (fun _ _ _ _ _ us hl => match us, hl with | [_, _], _ => rfl)
  · obtain ⟨a, r, h, g, t, n, p, rfl, _⟩ := h
    rfl
  · obtain ⟨a, r, h, g, t, n, p, rfl, TA, TG, p0, p7, k⟩ := h
    have hu := hu_of hr
    refine ⟨_, pss_cons (ps_if (pt_cmpR op_eq (pv 1) (pe_glob (v := .int 8) rfl T.k_HANDS_PAGE.choose_spec ⟨_, rfl⟩) (nomark _)) (pss_one (ps_ret pe_never)) pss_nil)
      (pss_one (ps_ret (pe_tupG (k := 2) (pgen_gex (k := 1) (own := [("row", 2)]) (g := gName 2) (tt := tB (tCall spShown [] E0 (tCons (tOp (rIxT K) (tVar 2) (tC (.int 2))) (tCons (tFld K (tVar 0) "moment") tNil)))) (te := tVar 2) hr.hd (by have := hr.dp; show (Ar.deeper _).depth < _; omega) TB.sh rfl (blkOk_by (N := NscSh) (sc := defScope s_Table_shown) (by decide +kernel)) scSh.nd (by decide +kernel) rfl rfl
        (pi_tup (pe_meth (pv 0) T.cl_Table T.m_Table_page_rows.me Gpr hr bpr .nil pass0 (pa_cons (pv 1) pa_nil))) (fun _ => rfl)
        (fun _ _ _ _ _ _ _ _ => pg_name (i := 2) scSh.nd rfl (Or.inl rfl)) (fun _ _ _ _ _ _ _ hr => by exact pts_one (pt_val (pe_call Gis hr rfl T.is_shown.at_ T.is_shown.kp bis .nil pass0 (pa_cons (pe_ix ix_tup (pv 2) pe_int (fun _ _ => rfl)) (pa_cons (pe_fld (pv 0) rfl) pa_nil))))) (fun _ _ _ _ _ _ _ hr => by exact pv 2)) (hr.mono (by decide)) rfl T.tuple))), ?_⟩
    have m10 : tp 10 ∈ tL tp := List.mem_cons_of_mem _ (List.mem_cons_of_mem _ List.mem_cons_self)
    obtain ⟨dx, ea⟩ := TA.at_
    refine ⟨_, rfl, rfl, _, rfl, ?_⟩
    rw [show decide (V.int p = V.int 8) = false by simp; omega]
    refine iteF ⟨_, rfl, a, dx, _, rfl, ea, rfl, _, rfl, a, r, h, g, t, n, p, rfl, TA, TG, p0, by omega, fun G1 c f sf nc kg hpg _ => ?_⟩
    obtain ⟨xs, hc, pc⟩ := hpg
    obtain ⟨ps, hP, tri⟩ := (TG.kg kg) _ m10
    refine ⟨c, rfl, ⟨_, SqT.of hc⟩, ps, hP, tri, fun qs tq => ?_⟩
    have kt : Kg (tL tp) No H (upd G1 (tp 10) (.tbl qs)) := kg.trans (Kg.tab m10 hP tq) fun _ z => False.elim z
    have k1 : Kg (tL tp) No G1 (upd G1 (tp 10) (.tbl qs)) := Kg.tab m10 hP tq
    generalize upd G1 (tp 10) (.tbl qs) = G2 at kt k1 ⊢
    have hc2 := k1.t.tup hc
    have pc2 : Paired (RwV G2) xs (pgRows f p) := pc.mono fun _ _ z => z.kt k1.t
    refine gx_tup (K := K) (a := c) (xs := xs) (fun i zs J => Kg (tL tp) No G2 J ∧ zs.length ≤ i ∧ Paired (RwV J) zs (((pgRows f p).take i).filter (shF t.mom))) ⟨Kg.refl _ _ _, Nat.le_refl _, by rw [List.take_zero]; exact .nil⟩ (fun i zs J _ ⟨kJ, _⟩ => SqT.of (kJ.t.tup hc2)) ?_ ?_
    · rintro i x zs J hx ⟨kJ, hl, pJ⟩
      obtain ⟨y, hy, q, rfl, hq⟩ := paired_at pc2 hx
      have hqJ := kJ.t.tup hq
      have hi4 : i < 4 := by
        have h1 := (List.getElem?_eq_some_iff.mp hx).1
        have h2 := pg_len f p
        rw [← pc.length] at h2
        omega
      have tk1 : (((pgRows f p).take (i + 1)).filter (shF t.mom)) = ((pgRows f p).take i).filter (shF t.mom) ++ (if shF t.mom y = true then [y] else []) := by
        rw [take_snoc hy, List.filter_append, List.filter_cons]
        cases shF t.mom y <;> rfl
      have eJ := (kt.trans kJ fun _ z => False.elim z).t.ins ea fun z => z
      refine ⟨rfl, _, rfl, q, _, 2, .int y.2.2, rfl, rfl, SqT.of hqJ, rfl, _, rfl, a, A.c 44, dx, _, _, rfl, eJ, T.cl_Table, T.n_Table_moment, l_mom .., y.2.2, t.mom, rfl, _, rfl, ?_⟩
      refine ite2 (fun z => ⟨_, rfl, szL (by omega), kJ, by rw [List.length_append]; simp only [List.length_cons, List.length_nil]; omega, ?_⟩) (fun z => ⟨kJ, Nat.le_succ_of_le hl, ?_⟩)
      · rw [tk1, if_pos (show shF t.mom y = true from z)]
        exact pJ.snoc ⟨q, rfl, hqJ⟩
      · rw [tk1, if_neg (show ¬ shF t.mom y = true from z), List.append_nil]
        exact pJ
    · rintro zs J ⟨kJ, hl, pJ⟩
      intro b nb
      have kHJ : Kg (tL tp) No H J := kt.trans kJ fun _ z => False.elim z
      rw [pc.length, List.take_length, sf.page p] at pJ
      exact k _ b (kHJ.free nb fun z => False.elim z) (kHJ.trans (Kg.of (Kp.new nb)) fun _ z => False.elim z) ⟨zs, upd_same, pJ.mono fun _ _ z => z.kt (Kp.new (F := No) nb).t⟩
/-! all that is shown -/
def whRows (t : TT) (n : Nat) : List (Int × Int × Int) := (keysFrom 0 n).flatMap fun p => (pgRows t.rows p).filter (shF t.mom)
theorem whRows_succ (t : TT) (n : Nat) : whRows t (n + 1) = whRows t n ++ (pgRows t.rows n).filter (shF t.mom) := by
  unfold whRows
  rw [keysFrom_succ, List.flatMap_append, Int.zero_add]
  simp
theorem wh_len (t : TT) (n : Nat) : (whRows t n).length ≤ 4 * n := by
  induction n with
  | zero => exact Nat.le_refl _
  | succ n ih =>
    rw [whRows_succ, List.length_append]
    have := Nat.le_trans (List.length_filter_le (shF t.mom) _) (pg_len t.rows n)
    omega
abbrev NscTw : List Str := ["self", "rows", "page", "row"]
theorem scTw : FnScope NscTw ["self"] (defScope s_Table_told_whole) := ⟨rfl, rfl, rfl, by decide +kernel, rfl, by decide +kernel, by decide +kernel⟩
def spWhole (A : Ad) (tp : Nat → Addr) : Sp := fun vs H Q _ => ∃ (a r h g : Addr) (t : TT) (n : Nat), vs = [.ref a] ∧ TabAt A H a r h g t n ∧ Tg (tL tp) H ∧
  ∀ G b l1 l2 xs zs, H b = none → H l1 = none → H l2 = none → l1 ≠ l2 → Kg (tL tp) No H G → G b = some (.tup [.int t.mom, .ref l1, .ref l2]) → G l1 = some (.lst xs) → Paired (RwV G) xs (whRows t 8) → G l2 = some (.lst zs) → Paired (RhV G) zs (hnRows t.hands) → Q (.ref b) G
theorem ok_told_whole (T : Txt K mg A) (TB : TbsB base mg A tp) : ∃ fd, FnOk P w K mg base CX0 7 (A.m 44 5) fd ["self"] (spWhole A tp) ∧ Binds K fd ["self"] [] := by
  obtain ⟨fd, F⟩ := T.m_Table_told_whole.fn
  obtain ⟨fdS, Gsh, bsh⟩ := ok_shown (P := P) (w := w) (base := base) T TB
  obtain ⟨fdH, Ghr, bhr⟩ := ok_hand_rows (P := P) (w := w) (base := base) T TB
  refine ⟨fd, F.ok scTw (fun vs H Q E h => ?_) (fun cdv Ar outer s H vs Q E hr h => ?_), F.binds fun _ _ _ _ _ _ us hl => match us, hl with | [_], _ => rfl⟩
  · obtain ⟨a, r, h, g, t, n, rfl, _⟩ := h
    rfl
  · obtain ⟨a, r, h, g, t, n, rfl, TA, TG, k⟩ := h
    have hu := hu_of hr
    refine ⟨_, pss_cons (ps_setLc2 (i := 1) (own := [("page", 2), ("row", 3)]) (vs1 := [3]) (g := gName 2) (g1 := gName 3) (tt := tYes) (tt1 := tYes) (te := tVar 3) (wi1 := iTup K (tMeth (A.c 44) "shown" (spShownM A tp) [] E0 (tVar 0) (tCons (tVar 2) tNil))) (by rfl) scTw.nd rfl rfl (sw_true rfl rfl rfl (by decide +kernel)) (pi_range1 (by rfl) T.range (pa_cons (pe_glob (v := .int 8) rfl T.k_HANDS_PAGE.choose_spec ⟨_, rfl⟩) pa_nil)) (blkOk_by (N := NscTw) (sc := defScope s_Table_told_whole) (by decide +kernel)) (by simp)
        (fun _ _ _ _ _ => pg_name (i := 2) scTw.nd rfl (Or.inl rfl)) (fun _ _ _ _ _ => pts_nil) (fun _ _ _ _ _ => by exact pi_tup (pe_meth (pv 0) T.cl_Table T.m_Table_shown.me Gsh hr bsh .nil pass0 (pa_cons (pv 2) pa_nil))) (fun _ _ _ _ _ => pg_name (i := 3) scTw.nd rfl (Or.inl rfl)) (fun _ _ _ _ _ => pts_nil) (fun _ _ _ _ _ => pv 3))
      (pss_one (ps_ret (pe_tup (pa_cons (pe_fld (pv 0) rfl) (pa_cons (pv 1) (pa_cons (pe_callTy call_list_of (by rfl) T.list (by decide +kernel) (pa_cons (pe_meth0 (pv 0) T.cl_Table T.m_Table_hand_rows.me Ghr (hr.mono (by decide)) bhr .nil pass0) pa_nil)) pa_nil)))))), ?_⟩
    have nfD : ∀ {D : Addr}, H D = none → ∀ b, b = D → ¬ tF a r h g b := fun {D} nD b z y => by
      obtain ⟨o, e⟩ := TA.there y
      rw [z, nD] at e
      cases e
    refine ⟨8, rfl, by decide, by decide, fun D nD => ?_⟩
    refine rng2 (lo := 0) (n := (8 : Int).toNat) (fun i J => Kg (tL tp) (fun b => b = D) H J ∧ ∃ xs, J D = some (.lst xs) ∧ xs.length ≤ 4 * i ∧ Paired (RwV J) xs (whRows t i)) ⟨Kg.of (Kp.new nD), [], upd_same, Nat.le_refl _, .nil⟩ ?_ ?_
    · rintro i J hi ⟨kJ, xs, hD, hl, pJ⟩
      have hi8 : i < 8 := by simpa using hi
      have TJ := TA.kt kJ.t (nfD nD)
      obtain ⟨dxJ, eJ⟩ := TJ.at_
      refine ⟨rfl, _, rfl, a, dxJ, _, rfl, eJ, rfl, _, rfl, a, r, h, g, t, n, 0 + (i : Nat), rfl, TJ, TG.kg kJ, by omega, by omega, fun G1 c nc kg hpg => ?_⟩
      rw [Int.zero_add] at hpg
      obtain ⟨cs, hc, pc⟩ := hpg
      have hcl : cs.length ≤ 4 := by rw [pc.length]; exact Nat.le_trans (List.length_filter_le _ _) (pg_len _ _)
      have hD1 : G1 D = some (.lst xs) := kg.t.lst hD fun z => z
      have ncD : c ≠ D := ne_of hc hD1 (by intro z; cases z)
      refine ⟨c, rfl, ⟨_, SqT.of hc⟩, ?_⟩
      refine in_tup (K := K) (a := c) (xs := cs) (fun j L => Kg (tL tp) (fun b => b = D) G1 L ∧ L D = some (.lst (xs ++ cs.take j))) ⟨Kg.refl _ _ _, by rw [List.take_zero, List.append_nil]; exact hD1⟩ (fun j L _ ⟨kL, _⟩ => SqT.of (kL.t.tup hc)) ?_ ?_
      · rintro j x L hx ⟨kL, hLD⟩
        refine ⟨rfl, _, rfl, _, hLD, szL ?_, kL.trans (Kg.of (Kp.updL (F := fun b => b = D) hLD rfl)) (fun _ z => .inl z), ?_⟩
        · rw [List.length_append, List.length_take]
          omega
        · rw [upd_same, take_snoc hx, List.append_assoc]
      · rintro L ⟨kL, hLD⟩
        rw [List.take_length] at hLD
        have kJL : Kg (tL tp) (fun b => b = D) J L := (kg.sub fun _ z => False.elim z).trans kL fun _ z => .inl z
        refine ⟨kJ.trans kJL fun _ z => .inl z, _, hLD, by rw [List.length_append]; omega, ?_⟩
        rw [whRows_succ]
        exact paired_app (pJ.mono fun _ _ z => z.kt kJL.t) (pc.mono fun _ _ z => z.kt kL.t)
    · rintro J ⟨kJ, xs, hD, hl, pJ⟩
      have TJ := TA.kt kJ.t (nfD nD)
      obtain ⟨dxJ, eJ⟩ := TJ.at_
      have kJ0 : Kg (tL tp) No H J := kJ.fresh fun b z => by rw [z]; exact nD
      refine ⟨_, rfl, a, A.c 44, dxJ, _, _, rfl, eJ, T.cl_Table, T.n_Table_moment, l_mom .., _, rfl, _, rfl, a, dxJ, _, rfl, eJ, rfl, a, r, h, g, t, n, rfl, TJ, TG.kg kJ, fun G1 c nc kg hph => ?_⟩
      obtain ⟨zs, hc, pz⟩ := hph
      have hD1 : G1 D = some (.lst xs) := kg.t.lst hD fun z => z
      refine ⟨c, _, rfl, .inr (SqT.of hc), fun l2 nl2 => ⟨sz 3 (by decide), fun b nb => ?_⟩⟩
      have k1 : Kp No G1 _ := (Kp.new (o := .lst zs) nl2).andN (o' := .tup [.int t.mom, .ref D, .ref l2]) nb
      have kF : Kg (tL tp) No H _ := (kJ0.trans kg fun _ z => False.elim z).trans (Kg.of k1) fun _ z => False.elim z
      have kHG1 : Kg (tL tp) No H G1 := kJ0.trans kg fun _ z => False.elim z
      have nl2H : H l2 = none := kHG1.free nl2 fun z => False.elim z
      have nbH : H b = none := kHG1.free (upd_none nb).2 fun z => False.elim z
      refine k _ b D l2 xs zs nbH nD nl2H (ne_of_none hD1 nl2) kF upd_same (k1.t.lst hD1 fun z => z) (pJ.mono fun _ _ z => (z.kt kg.t).kt k1.t) ?_ (pz.mono fun _ _ z => z.kt k1.t)
      rw [upd_ne (upd_none nb).1.symm, upd_same]
end
end S02

set_option Elab.async false
set_option linter.all false
set_option maxRecDepth 100000
set_option maxHeartbeats 4000000
namespace S02
open PySem PySem.Spec PyProof.Rows L2 K5 SupX GenX
theorem takesN0 {X : Cx} : L2N.Takes X (fun _ _ _ _ => False) := fun _ _ ⟨_, _, _, _, _, _, _, _, _, _, _, _, _, _, _, _, w⟩ => w.elim
section
variable {P : Program} {w : World} {K : PySem.W.Frag} {mg : Str → Option Value} {base : Heap} {A : Ad} {tp : Nat → Addr}
/-! ### __init__ -/
theorem scTi : FnScope ["self"] ["self"] (defScope s_Table___init__) := ⟨rfl, rfl, rfl, by decide +kernel, rfl, by decide +kernel, by decide +kernel⟩
def spTInit (A : Ad) : Sp := fun vs H Q _ => ∃ (a dx : Addr), vs = [.ref a] ∧ H a = some (.ins (A.c 44) dx []) ∧ ∀ G r h g, H r = none → H h = none → H g = none → TabAt A G a r h g TT.new 0 → Kp (fun b => b = a) H G → Q .non G
theorem ok_tinit (T : Txt K mg A) : ∃ fd, FnOk P w K mg base CX0 1 (A.m 44 0) fd ["self"] (spTInit A) ∧ Binds K fd ["self"] [] := by
  obtain ⟨fd, F⟩ := T.m_Table___init__.fn
  refine ⟨fd, F.ok scTi (fun vs H Q E h => ?_) (fun cdv Ar outer s H vs Q E hr h => ?_), F.binds fun _ _ _ _ _ _ us hl => match us, hl with | [_], _ => rfl⟩
  · obtain ⟨a, dx, rfl, _⟩ := h
    rfl
  · obtain ⟨a, dx, rfl, ea, k⟩ := h
    refine ⟨_, (pss_cons (ps_fld (pv 0) pe_int rfl)
      (pss_cons (ps_fld (pv 0) pe_int rfl)
      (pss_cons (ps_fld (pv 0) pe_dnewK rfl)
      (pss_one (ps_fld (pv 0) pe_dnewK rfl))))), ?_⟩
    have lt : ∀ n : Nat, n ≤ 5 → n < 1000 := fun n h => by omega
    refine ⟨_, rfl, a, A.c 44, dx, _, rfl, ea, T.cl_Table, T.n_Table_number, lt 0 (by decide), ?_⟩
    refine ⟨_, rfl, a, A.c 44, dx, _, rfl, upd_same, T.cl_Table, T.n_Table_moment, lt 1 (by decide), ?_⟩
    rw [upd_upd]
    have k1 : Kp (fun b => b = a) H (upd H a (.ins (A.c 44) dx [("number", .int 0), ("moment", .int 0)])) := Kp.updI ea rfl
    have e1 : upd H a (.ins (A.c 44) dx [("number", .int 0), ("moment", .int 0)]) a = some (.ins (A.c 44) dx [("number", .int 0), ("moment", .int 0)]) := upd_same
    show tSeq _ _ _ _ (upd H a (.ins (A.c 44) dx [("number", .int 0), ("moment", .int 0)]))
    generalize upd H a (.ins (A.c 44) dx [("number", .int 0), ("moment", .int 0)]) = H1 at k1 e1 ⊢
    refine fun r nr => ⟨_, rfl, a, A.c 44, dx, _, rfl, (upd_ne (ne_of_none e1 nr)).trans e1, T.cl_Table, T.n_Table_rows, lt 2 (by decide), ?_⟩
    have k2 : Kp (fun b => b = a) H1 (upd (upd H1 r (.dK [])) a (.ins (A.c 44) dx [("number", .int 0), ("moment", .int 0), ("rows", .ref r)])) := (Kp.new nr).andI ((upd_ne (ne_of_none e1 nr)).trans e1) rfl
    have e2 : upd (upd H1 r (.dK [])) a (.ins (A.c 44) dx [("number", .int 0), ("moment", .int 0), ("rows", .ref r)]) a = some (.ins (A.c 44) dx [("number", .int 0), ("moment", .int 0), ("rows", .ref r)]) := upd_same
    have r2 : upd (upd H1 r (.dK [])) a (.ins (A.c 44) dx [("number", .int 0), ("moment", .int 0), ("rows", .ref r)]) r = some (.dK []) := by rw [upd_ne (ne_of_none e1 nr).symm, upd_same]
    show tSeq _ _ _ _ (upd (upd H1 r (.dK [])) a (.ins (A.c 44) dx [("number", .int 0), ("moment", .int 0), ("rows", .ref r)]))
    generalize upd (upd H1 r (.dK [])) a (.ins (A.c 44) dx [("number", .int 0), ("moment", .int 0), ("rows", .ref r)]) = H2 at k2 e2 r2 ⊢
    refine fun h nh => ⟨_, rfl, a, A.c 44, dx, _, rfl, (upd_ne (ne_of_none e2 nh)).trans e2, T.cl_Table, T.n_Table_hands, lt 3 (by decide), ?_⟩
    have k3 : Kp (fun b => b = a) H2 (upd (upd H2 h (.dK [])) a (.ins (A.c 44) dx [("number", .int 0), ("moment", .int 0), ("rows", .ref r), ("hands", .ref h)])) := (Kp.new nh).andI ((upd_ne (ne_of_none e2 nh)).trans e2) rfl
    have e3 : upd (upd H2 h (.dK [])) a (.ins (A.c 44) dx [("number", .int 0), ("moment", .int 0), ("rows", .ref r), ("hands", .ref h)]) a = some (.ins (A.c 44) dx [("number", .int 0), ("moment", .int 0), ("rows", .ref r), ("hands", .ref h)]) := upd_same
    have h3 : upd (upd H2 h (.dK [])) a (.ins (A.c 44) dx [("number", .int 0), ("moment", .int 0), ("rows", .ref r), ("hands", .ref h)]) h = some (.dK []) := by rw [upd_ne (ne_of_none e2 nh).symm, upd_same]
    rw [show putF "hands" (V.ref h) [("number", V.int 0), ("moment", V.int 0), ("rows", V.ref r)] = ([("number", V.int 0), ("moment", V.int 0), ("rows", V.ref r), ("hands", V.ref h)] : List (Str × V)) from rfl]
    generalize upd (upd H2 h (.dK [])) a (.ins (A.c 44) dx [("number", .int 0), ("moment", .int 0), ("rows", .ref r), ("hands", .ref h)]) = H3 at k3 e3 h3 ⊢
    have nra : ¬ r = a := (ne_of_none e1 nr).symm
    have nha : ¬ h = a := (ne_of_none e2 nh).symm
    have r3 := k3.t.dK r2 nra
    have kk : Kp (fun b => b = a) H _ := (k1.trans k2 fun _ z => .inl z).trans k3 fun _ z => .inl z
    have hr0 : H r = none := k1.free nr fun z => by rw [show r = a from z, e1] at nr; cases nr
    have hh0 : H h = none := (k1.trans k2 fun _ z => .inl z).free nh fun z => by rw [show h = a from z, e2] at nh; cases nh
    exact k _ r h r hr0 hh0 hr0 ⟨⟨dx, e3⟩, ⟨_, Sim.refl _ _, [], r3, Nat.le_refl _, fun _ => rfl⟩, ⟨[], h3, Nat.le_refl _, ⟨⟨[], rfl, .nil⟩, fun _ z => absurd rfl z⟩, fun _ => rfl⟩, ⟨[], r3⟩, ne_of_none r2 nh⟩ kk
/-! ### twin -/
theorem scTt : FnScope ["self", "other"] ["self"] (defScope s_Table_twin) := ⟨rfl, rfl, rfl, by decide +kernel, rfl, by decide +kernel, by decide +kernel⟩
def spTwin (A : Ad) : Sp := fun vs H Q _ => ∃ (a r h g : Addr) (t : TT) (n : Nat), vs = [.ref a] ∧ TabAt A H a r h g t n ∧ ∀ G a' r' h' g', H a' = none → H r' = none → H h' = none → H g' = none → TabAt A G a' r' h' g' t n → Kp No H G → Q (.ref a') G
theorem ok_twin (T : Txt K mg A) : ∃ fd, FnOk P w K mg base CX0 3 (A.m 44 1) fd ["self"] (spTwin A) ∧ Binds K fd ["self"] [] := by
  obtain ⟨fd, F⟩ := T.m_Table_twin.fn
  obtain ⟨fdI, G_Table___init__, b_Table___init__⟩ := ok_tinit (P := P) (w := w) (base := base) T
  refine ⟨fd, F.ok scTt (fun vs H Q E h => ?_) (fun cdv Ar outer s H vs Q E hr h => ?_), F.binds fun _ _ _ _ _ _ us hl => match us, hl with | [_], _ => rfl⟩
  · obtain ⟨a, r, h, g, t, n, rfl, _⟩ := h
    rfl
  · obtain ⟨a, r, h, g, t, n, rfl, TA, k⟩ := h
    refine ⟨_, (pss_cons (ps_set (i := 1) scTt.nd rfl (Or.inl rfl) (pe_make0 (E := E0) T.mk_Table G_Table___init__ (hr.mono (by first | decide | omega)) rfl T.c_Table b_Table___init__ .nil pass0))
      (pss_cons (ps_fld (pv 1) (pe_fld (pv 0) rfl) rfl)
      (pss_cons (ps_fld (pv 1) (pe_fld (pv 0) rfl) rfl)
      (pss_cons (ps_fld (pv 1) (pe_callTy call_dictD (by rfl) T.dict (by decide +kernel) (pa_cons (pe_fld (pv 0) rfl) pa_nil)) rfl)
      (pss_cons (ps_fld (pv 1) (pe_callTy call_dictD (by rfl) T.dict (by decide +kernel) (pa_cons (pe_fld (pv 0) rfl) pa_nil)) rfl)
      (pss_one (ps_ret (pv 1)))))))), ?_⟩
    obtain ⟨dx, ea⟩ := TA.at_
    obtain ⟨kr, hr1⟩ := TA.rows.dc
    obtain ⟨kh, hh1⟩ := TA.hands.dc
    refine fun a' dx' na ndx nex => ⟨a', dx', rfl, upd_same, fun G r0 h0 g0 nr nh ng TB kG => ?_⟩
    have na0 : upd H dx' (.own a') a' = none := (upd_ne nex.symm).trans na
    have k0 : Kp (fun b => b = a') H G := (((Kp.new (F := fun b => b = a') ndx).andN na0).trans kG fun _ z => .inl z)
    obtain ⟨dx2, e0⟩ := TB.at_
    have nfa : ∀ {b o}, H b = some o → ¬ b = a' := fun e z => by rw [z, na] at e; cases e
    have eG := k0.t.ins ea (nfa ea)
    refine ⟨rfl, _, rfl, a, A.c 44, dx, _, _, rfl, eG, T.cl_Table, T.n_Table_number, l_num .., _, rfl, a', A.c 44, dx2, _, rfl, e0, T.cl_Table, T.n_Table_number, by show 4 < 1000; decide, ?_⟩
    rw [p_num]
    have k1 : Kp (fun b => b = a') H (upd G a' (.ins (A.c 44) dx2 (tfl t.num TT.new.mom r0 h0))) := k0.andI e0 rfl
    have e1 : upd G a' (.ins (A.c 44) dx2 (tfl t.num TT.new.mom r0 h0)) a' = some (.ins (A.c 44) dx2 (tfl t.num TT.new.mom r0 h0)) := upd_same
    generalize upd G a' (.ins (A.c 44) dx2 (tfl t.num TT.new.mom r0 h0)) = G1 at k1 e1 ⊢
    refine ⟨_, rfl, a, A.c 44, dx, _, _, rfl, k1.t.ins ea (nfa ea), T.cl_Table, T.n_Table_moment, l_mom .., _, rfl, a', A.c 44, dx2, _, rfl, e1, T.cl_Table, T.n_Table_moment, by show 4 < 1000; decide, ?_⟩
    rw [p_mom]
    have k2 : Kp (fun b => b = a') H (upd G1 a' (.ins (A.c 44) dx2 (tfl t.num t.mom r0 h0))) := k1.andI e1 rfl
    have e2 : upd G1 a' (.ins (A.c 44) dx2 (tfl t.num t.mom r0 h0)) a' = some (.ins (A.c 44) dx2 (tfl t.num t.mom r0 h0)) := upd_same
    generalize upd G1 a' (.ins (A.c 44) dx2 (tfl t.num t.mom r0 h0)) = G2 at k2 e2 ⊢
    refine ⟨_, rfl, a, A.c 44, dx, _, _, rfl, k2.t.ins ea (nfa ea), T.cl_Table, T.n_Table_rows, l_rows .., r, kr, rfl, .inl (k2.t.dK hr1 (nfa hr1)), fun r' nr' => ⟨_, rfl, a', A.c 44, dx2, _, rfl, (upd_ne (ne_of_none e2 nr')).trans e2, T.cl_Table, T.n_Table_rows, by show 4 < 1000; decide, ?_⟩⟩
    rw [p_rows]
    have j3 : Kp (fun b => b = a') G2 (upd (upd G2 r' (.dK kr)) a' (.ins (A.c 44) dx2 (tfl t.num t.mom r' h0))) := (Kp.new nr').andI ((upd_ne (ne_of_none e2 nr')).trans e2) rfl
    have e3 : upd (upd G2 r' (.dK kr)) a' (.ins (A.c 44) dx2 (tfl t.num t.mom r' h0)) a' = some (.ins (A.c 44) dx2 (tfl t.num t.mom r' h0)) := upd_same
    have r3 : upd (upd G2 r' (.dK kr)) a' (.ins (A.c 44) dx2 (tfl t.num t.mom r' h0)) r' = some (.dK kr) := by rw [upd_ne (ne_of_none e2 nr').symm, upd_same]
    have nra : ¬ r' = a' := (ne_of_none e2 nr').symm
    have hr0 : H r' = none := k2.free nr' fun z => absurd z nra
    generalize upd (upd G2 r' (.dK kr)) a' (.ins (A.c 44) dx2 (tfl t.num t.mom r' h0)) = G3 at j3 e3 r3 ⊢
    have k3 := k2.trans j3 fun _ z => .inl z
    refine ⟨_, rfl, a, A.c 44, dx, _, _, rfl, k3.t.ins ea (nfa ea), T.cl_Table, T.n_Table_hands, l_hands .., h, kh, rfl, .inl (k3.t.dK hh1 (nfa hh1)), fun h' nh' => ⟨_, rfl, a', A.c 44, dx2, _, rfl, (upd_ne (ne_of_none e3 nh')).trans e3, T.cl_Table, T.n_Table_hands, by show 4 < 1000; decide, ?_⟩⟩
    rw [p_hands]
    have j4 : Kp (fun b => b = a') G3 (upd (upd G3 h' (.dK kh)) a' (.ins (A.c 44) dx2 (tfl t.num t.mom r' h'))) := (Kp.new nh').andI ((upd_ne (ne_of_none e3 nh')).trans e3) rfl
    have e4 : upd (upd G3 h' (.dK kh)) a' (.ins (A.c 44) dx2 (tfl t.num t.mom r' h')) a' = some (.ins (A.c 44) dx2 (tfl t.num t.mom r' h')) := upd_same
    have h4 : upd (upd G3 h' (.dK kh)) a' (.ins (A.c 44) dx2 (tfl t.num t.mom r' h')) h' = some (.dK kh) := by rw [upd_ne (ne_of_none e3 nh').symm, upd_same]
    have nha : ¬ h' = a' := (ne_of_none e3 nh').symm
    have hh0 : H h' = none := k3.free nh' fun z => absurd z nha
    generalize upd (upd G3 h' (.dK kh)) a' (.ins (A.c 44) dx2 (tfl t.num t.mom r' h')) = G4 at j4 e4 h4 ⊢
    have k4 := k3.trans j4 fun _ z => .inl z
    have r4 := j4.t.dK r3 nra
    have rh : r' ≠ h' := ne_of_none r3 nh'
    have k5 : Kp No H G4 := kp_fresh k4 fun b z => by rw [z]; exact na
    exact ⟨_, rfl, k G4 a' r' h' r' na hr0 hh0 hr0 ⟨⟨dx2, e4⟩, TA.rows.copy hr1 r4 k5.t, TA.hands.copy hh1 h4 k5.t, ⟨_, r4⟩, rh⟩ k5⟩
end
end S02

set_option Elab.async false
set_option linter.all false
set_option maxRecDepth 100000
set_option maxHeartbeats 4000000
namespace S02
open PySem PySem.Spec PyProof.Rows L2 K5 SupX GenX
inductive Ev where
  | tick (m : Int)
  | deal (hd x : Int) (ds : List Dd)
def EvAt (H : Hp) (v : V) : Ev → Prop
  | .tick m => ∃ u, v = .ref u ∧ H u = some (.tup [.str "tick", .int m])
  | .deal hd x ds => ∃ u dv, v = .ref u ∧ H u = some (.tup [.str "deal", .int hd, .int x, dv]) ∧ DsAt H dv ds
theorem EvAt.kt {F : Addr → Prop} {H G : Hp} (k : Kt F H G) {v : V} : ∀ {e : Ev}, EvAt H v e → EvAt G v e
  | .tick _, ⟨u, e, q⟩ => ⟨u, e, k.tup q⟩
  | .deal _ _ _, ⟨u, dv, e, q, d⟩ => ⟨u, dv, e, k.tup q, d.kt k⟩
def Ev.ok : Ev → Prop
  | .tick _ => True
  | .deal hd _ ds => 0 ≤ hd ∧ hd ≤ 3 ∧ ds.length ≤ 4
def rowsBe (t : TT) (ds : List Dd) : Rw := match steps t.mom t.rows ds with
  | none => t.rows
  | some f => f
def TT.next (t : TT) : Ev → TT
  | .tick m => ⟨t.rows, m, t.num + 1, t.hands⟩
  | .deal hd x ds => ⟨rowsBe t ds, t.mom, t.num + 1, t.hands.set hd (x, t.num + 1, (steps t.mom t.rows ds).isSome)⟩
def lastL (f : Hn) (h : Int) : Int := match f h with
  | none => 0
  | some x => x.1
def oA : Option Addr → V
  | none => .non
  | some b => .ref b
section
variable {P : Program} {w : World} {K : PySem.W.Frag} {mg : Str → Option Value} {base : Heap} {A : Ad} {tp : Nat → Addr} {B C fI : Addr}
/-! ### last_letter -/
theorem scLl : FnScope ["self", "hand"] ["self", "hand"] (defScope s_Table_last_letter) := ⟨rfl, rfl, rfl, by decide +kernel, rfl, by decide +kernel, by decide +kernel⟩
def spLast (A : Ad) : Sp := fun vs H Q _ => ∃ (a r h g : Addr) (t : TT) (n : Nat) (j : Int), vs = [.ref a, .int j] ∧ TabAt A H a r h g t n ∧ Q (.int (lastL t.hands j)) H
theorem ok_last_letter (T : Txt K mg A) : ∃ fd, FnOk P w K mg base CX0 1 (A.m 44 6) fd ["self", "hand"] (spLast A) ∧ Binds K fd ["self", "hand"] [] := by
  obtain ⟨fd, F⟩ := T.m_Table_last_letter.fn
  refine ⟨fd, F.ok scLl (fun vs H Q E h => ?_) (fun cdv Ar outer s H vs Q E hr h => ?_), F.binds fun _ _ _ _ _ _ us hl => match us, hl with | [_, _], _ => rfl⟩
  · obtain ⟨a, r, h, g, t, n, j, rfl, _⟩ := h
    rfl
  · obtain ⟨a, r, h, g, t, n, j, rfl, TA, k⟩ := h
    have hu := hu_of hr
    refine ⟨_, (pss_one (ps_ret (pe_ifExp (pt_cmp (pc_din hu (pv 1) (pe_fld (pv 0) rfl))) (pe_ix ix_tup (pe_dget hu (pe_fld (pv 0) rfl) (pv 1) (fun _ _ => rfl)) pe_int (fun _ _ => rfl)) pe_int))), ?_⟩
    obtain ⟨dx, ea⟩ := TA.at_
    obtain ⟨kvs, hd, hkl, hk, hv⟩ := TA.hands
    have q := hv j
    refine ⟨_, rfl, _, rfl, a, A.c 44, dx, _, _, rfl, ea, T.cl_Table, T.n_Table_hands, l_hands .., h, _, rfl, DGet.k (k := Sum.inl j) hd, _, rfl, ?_⟩
    unfold lastL at k
    cases e : t.hands j with
    | none =>
      rw [e] at q k
      have q : valV kvs (.inl j : Key) = none := q
      rw [q]
      exact iteF k
    | some z =>
      obtain ⟨x, num, b⟩ := z
      rw [e] at q k
      obtain ⟨u, q1, q2⟩ := q
      have dg : DGet H h (.int j) (some (.ref u)) := by
        have := DGet.k (k := Sum.inl j) hd
        rw [q1] at this
        exact this
      rw [q1]
      exact iteT ⟨_, rfl, a, A.c 44, dx, _, _, rfl, ea, T.cl_Table, T.n_Table_hands, l_hands .., _, rfl, h, .ref u, rfl, dg, u, _, 0, .int x, rfl, rfl, SqT.of q2, rfl, k⟩
/-! ### told_of -/
theorem scTo : FnScope ["self", "key", "token"] ["self", "key", "token"] (defScope s_Table_told_of) := ⟨rfl, rfl, rfl, by decide +kernel, rfl, by decide +kernel, by decide +kernel⟩
def spToldOf (A : Ad) : Sp := fun vs H Q _ => ∃ (a r h g : Addr) (t : TT) (n : Nat) (j tk : Int), vs = [.ref a, .int j, .int tk] ∧ TabAt A H a r h g t n ∧ inB 0 31 j = true ∧ tk ≤ t.num ∧ ∀ G b, H b = none → Kp No H G → G b = some (.tup [.int t.num, oV (seen t.mom t.rows j)]) → Q (.ref b) G
theorem ok_told_of (T : Txt K mg A) : ∃ fd, FnOk P w K mg base CX0 3 (A.m 44 4) fd ["self", "key", "token"] (spToldOf A) ∧ Binds K fd ["self", "key", "token"] [] := by
  obtain ⟨fd, F⟩ := T.m_Table_told_of.fn
  obtain ⟨fdK, Gcheck_key, bcheck_key⟩ := ok_check_key (P := P) (w := w) (base := base) T
  obtain ⟨fdW, Gshown_worth, bshown_worth⟩ := ok_shown_worth (P := P) (w := w) (base := base) T
  refine ⟨fd, F.ok scTo (fun vs H Q E h => ?_) (fun cdv Ar outer s H vs Q E hr h => ?_), F.binds fun _ _ _ _ _ _ us hl => match us, hl with | [_, _, _], _ => rfl⟩
  · obtain ⟨a, r, h, g, t, n, j, tk, rfl, _⟩ := h
    rfl
  · obtain ⟨a, r, h, g, t, n, j, tk, rfl, TA, hj, htk, k⟩ := h
    have hu := hu_of hr
    refine ⟨_, (pss_cons (ps_expr (pe_call (E := fun _ _ _ => False) Gcheck_key (hr.mono (by decide)) rfl T.check_key.at_ T.check_key.kp bcheck_key .nil (L2N.passes_call takesN0 fun _ _ _ _ h => h) (pa_cons (pv 1) pa_nil)))
      (pss_cons (ps_if (pt_cmpR op_gt (pv 2) (pe_fld (pv 0) rfl) (nomark _))
        (pss_one ps_never)
        pss_nil)
      (pss_one (ps_ret (pe_tup (pa_cons (pe_fld (pv 0) rfl) (pa_cons (pe_call Gshown_worth (hr.mono (by first | decide | omega)) rfl T.shown_worth.at_ T.shown_worth.kp bshown_worth .nil pass0 (pa_cons (pe_fld (pv 0) rfl) (pa_cons (pv 1) (pa_cons (pe_fld (pv 0) rfl) pa_nil)))) pa_nil))))))), ?_⟩
    obtain ⟨dx, ea⟩ := TA.at_
    refine ⟨_, rfl, j, rfl, fun _ => ?_, fun z => by rw [hj] at z; cases z⟩
    refine ⟨_, rfl, _, rfl, a, A.c 44, dx, _, _, rfl, ea, T.cl_Table, T.n_Table_number, l_num .., _, _, rfl, rfl, _, rfl, ?_⟩
    rw [decide_eq_false (show ¬ tk > t.num by omega)]
    obtain ⟨f0, s0, R0⟩ := TA.rows
    refine iteF ⟨_, rfl, a, A.c 44, dx, _, _, rfl, ea, T.cl_Table, T.n_Table_number, l_num .., _, rfl, a, A.c 44, dx, _, _, rfl, ea, T.cl_Table, T.n_Table_rows, l_rows .., _, rfl, _, rfl, a, A.c 44, dx, _, _, rfl, ea, T.cl_Table, T.n_Table_moment, l_mom .., r, j, t.mom, f0, n, rfl, R0, sz 2 (by decide), fun b nb => ?_⟩
    exact k _ b nb (Kp.new nb) (by rw [← s0.seen j]; exact upd_same)
/-! ### take_deal -/
theorem scTd : FnScope ["self", "entry", "word", "hand", "letter", "deeds", "behind"] ["self", "entry"] (defScope s_Table_take_deal) := ⟨rfl, rfl, rfl, by decide +kernel, rfl, by decide +kernel, by decide +kernel⟩
def spTakeDeal (A : Ad) : Sp := fun vs H Q _ => ∃ (a r h g u : Addr) (t : TT) (n : Nat) (hd x : Int) (dv : V) (ds : List Dd), vs = [.ref a, .ref u] ∧ TabAt A H a r h g t n ∧ H u = some (.tup [.str "deal", .int hd, .int x, dv]) ∧ DsAt H dv ds ∧ 0 ≤ hd ∧ hd ≤ 3 ∧ ds.length ≤ 4 ∧ n ≤ 14000 ∧
  ∀ G r', (r' = r ∨ H r' = none) → TabAt A G a r' h g ⟨rowsBe t ds, t.mom, t.num, t.hands.set hd (x, t.num, (steps t.mom t.rows ds).isSome)⟩ (n + 5) → Kp (fun b => b = a ∨ b = h) H G → Q .non G
theorem ok_take_deal (T : Txt K mg A) (X : Ex P w K mg A B C fI) : ∃ fd, FnOk P w K mg base CX0 5 (A.m 44 3) fd ["self", "entry"] (spTakeDeal A) ∧ Binds K fd ["self", "entry"] [] := by
  obtain ⟨fd, F⟩ := T.m_Table_take_deal.fn
  obtain ⟨fdR, Grows_behind, brows_behind⟩ := ok_rows_behind (P := P) (w := w) (base := base) T X
  refine ⟨fd, F.ok scTd (fun vs H Q E h => ?_) (fun cdv Ar outer s H vs Q E hr h => ?_), F.binds fun _ _ _ _ _ _ us hl => match us, hl with | [_, _], _ => rfl⟩
  · obtain ⟨a, r, h, g, u, t, n, hd, x, dv, ds, rfl, _⟩ := h
    rfl
  · obtain ⟨a, r, h, g, u, t, n, hd, x, dv, ds, rfl, TA, hu2, hds, h0, h3, h4, hn, k⟩ := h
    have hu := hu_of hr
    refine ⟨_, (pss_cons (ps_asg (pv 1) (pg_tup rfl (pgs_cons (pg_name (i := 2) scTd.nd rfl (Or.inl rfl)) (pgs_cons (pg_name (i := 3) scTd.nd rfl (Or.inl rfl)) (pgs_cons (pg_name (i := 4) scTd.nd rfl (Or.inl rfl)) (pgs_cons (pg_name (i := 5) scTd.nd rfl (Or.inl rfl)) pgs_nil))))))
      (C8.pss_cut (ps_set (i := 6) scTd.nd rfl (Or.inl rfl) (pe_call Grows_behind (hr.mono (by first | decide | omega)) rfl T.rows_behind.at_ T.rows_behind.kp brows_behind .nil pass0 (pa_cons (pe_fld (pv 0) rfl) (pa_cons (pv 5) (pa_cons (pe_fld (pv 0) rfl) pa_nil)))))
      (C8.pss_cut (ps_if (pt_cmp (pc_notN (pv 6)))
        (pss_one (ps_fld (pv 0) (pv 6) rfl))
        pss_nil)
      (pss_one (ps_dput hu (pe_fld (pv 0) rfl) (pv 3) (pe_tup (pa_cons (pv 4) (pa_cons (pe_fld (pv 0) rfl) (pa_cons (pe_cmp (pc_notN (pv 6))) pa_nil)))) rfl))))), ?_⟩
    obtain ⟨dx, ea⟩ := TA.at_
    obtain ⟨kvh, hdh, hkl, hk, hv⟩ := TA.hands
    refine ⟨_, rfl, u, _, rfl, SqT.of hu2, rfl, _, _, rfl, _, _, rfl, _, _, rfl, _, _, rfl, rfl, ?_⟩
    obtain ⟨f0, s0, R0⟩ := TA.rows
    have hs := s0.steps (ds := ds)
    refine ⟨fun σ G => ∃ o, σ = [some (.ref a), some (.ref u), some (.str "deal"), some (.int hd), some (.int x), some dv, some (oA o)] ∧ Kp No H G ∧ (steps t.mom t.rows ds).isSome = o.isSome ∧ (o = none → RsAt G r t.mom (rowsBe t ds) (n + 4)) ∧ ∀ b, o = some b → H b = none ∧ RsAt G b t.mom (rowsBe t ds) (n + 4), ?_, ?_⟩
    · refine ⟨_, rfl, a, A.c 44, dx, _, _, rfl, ea, T.cl_Table, T.n_Table_rows, l_rows .., _, rfl, _, rfl, a, A.c 44, dx, _, _, rfl, ea, T.cl_Table, T.n_Table_moment, l_mom .., r, dv, t.mom, f0, n, ds, rfl, R0, hds, by omega, fun G kG => ⟨fun q => ?_, fun f b q nb R => ?_⟩⟩
      · rw [q] at hs
        cases e2 : steps t.mom t.rows ds with
        | some f2 => rw [e2] at hs; exact hs.elim
        | none =>
          refine ⟨none, rfl, kG, rfl, fun _ => ?_, fun b z => by cases z⟩
          unfold rowsBe
          rw [e2]
          exact (TA.rows.kt kG.t fun z => z).le (by omega)
      · rw [q] at hs
        cases e2 : steps t.mom t.rows ds with
        | none => rw [e2] at hs; exact hs.elim
        | some f2 =>
          rw [e2] at hs
          refine ⟨some b, rfl, kG, rfl, (fun z => by cases z), fun b2 z => by cases z; exact ⟨nb, by unfold rowsBe; rw [e2]; exact ⟨f, hs, R.le (by omega)⟩⟩⟩
    rintro σ G ⟨o, rfl, kG, hso, ho1, ho2⟩
    have eG := kG.t.ins ea fun z => z
    refine ⟨fun σ J => σ = [some (.ref a), some (.ref u), some (.str "deal"), some (.int hd), some (.int x), some dv, some (oA o)] ∧ ∃ r', (r' = r ∨ H r' = none) ∧ (r' = r ∨ G r' ≠ none) ∧ Kp (fun b => b = a) G J ∧ J a = some (.ins (A.c 44) dx (tfl t.num t.mom r' h)) ∧ RsAt J r' t.mom (rowsBe t ds) (n + 4) ∧ r' ≠ a ∧ r' ≠ h, ?_, ?_⟩
    · have nra : r ≠ a := by obtain ⟨_, e⟩ := TA.rows.dc; exact ne_of e ea (by intro z; cases z)
      cases o with
      | none =>
        exact ⟨_, rfl, _, rfl, iteF ⟨rfl, r, .inl rfl, .inl rfl, Kp.refl _ _, eG, ho1 rfl, nra, TA.rh⟩⟩
      | some b =>
        obtain ⟨nb, Rb⟩ := ho2 b rfl
        obtain ⟨kb, hbd⟩ := Rb.dc
        have nba : b ≠ a := fun z => by rw [z, ea] at nb; cases nb
        refine ⟨_, rfl, _, rfl, iteT ⟨_, rfl, _, rfl, a, A.c 44, dx, _, rfl, eG, T.cl_Table, T.n_Table_rows, by show 4 < 1000; decide, ?_⟩⟩
        show _ ∧ _
        refine ⟨rfl, b, .inr nb, .inr (fun z => by rw [hbd] at z; cases z), Kp.updI eG rfl, ?_, Rb.kt (Kp.updI (F := fun b => b = a) eG rfl).t nba, nba, (fun z => by rw [z, hdh] at nb; cases nb)⟩
        rw [upd_same]
        rfl
    rintro σ J ⟨rfl, r', hr1, hr2, kJ, eJ, RJ, nra, nrh⟩
    have nha : h ≠ a := ne_of hdh ea (by intro z; cases z)
    obtain ⟨kvg, hdg⟩ := TA.gone.dc
    have nga : g ≠ a := ne_of hdg ea (by intro z; cases z)
    have kHJ : Kp (fun b => b = a) H J := (kG.sub fun _ z => False.elim z).trans kJ fun _ z => .inl z
    have hJh := kHJ.t.dK hdh nha
    refine ⟨_, rfl, _, rfl, a, A.c 44, dx, _, _, rfl, eJ, T.cl_Table, T.n_Table_number, l_num .., _, rfl, sz 3 (by decide), fun q nq => ?_⟩
    have kq : Kp No J (upd J q (.tup [.int x, .int t.num, .bl (!decide (oA o = V.non))])) := Kp.new nq
    have eq : (!decide (oA o = V.non)) = (steps t.mom t.rows ds).isSome := by
      rw [hso]
      cases o with
      | none => rfl
      | some b => rfl
    refine ⟨_, rfl, a, A.c 44, dx, _, _, rfl, kq.t.ins eJ (fun z => z), T.cl_Table, T.n_Table_hands, l_hands .., _, rfl, h, _, rfl, DPut.k (k := Sum.inl hd) (kq.t.dK hJh fun z => z) (szL (by omega)), ?_⟩
    have Hd2 := ((TA.hands.kt kHJ.t nha).kt kq.t fun z => z).put (j := hd) (kq.t.dK hJh fun z => z) h0 h3 upd_same
    have k4 : Kp (fun b => b = h) J _ := (kq.sub (F' := fun b => b = h) fun _ z => False.elim z).andD (o' := .dK (putK kvh (Sum.inl hd) (.ref q))) (kq.t.dK hJh fun z => z) rfl
    rw [← eq] at k
    refine k _ r' hr1 ⟨⟨dx, k4.t.ins eJ nha.symm⟩, (RJ.kt k4.t nrh).le (by omega), Hd2.le (by omega), ((TA.gone.kt kHJ.t nga).kt kq.t fun z => z).up (kq.t.dK hJh fun z => z), nrh⟩ ((kHJ.sub fun _ z => .inl z).trans k4 fun _ z => .inl (.inr z))
end
end S02

set_option Elab.async false
set_option linter.all false
set_option maxRecDepth 100000
set_option maxHeartbeats 4000000
namespace S02
open PySem PySem.Spec PyProof.Rows L2 K5 SupX GenX
/-- pages that are to be written -/
def PcV (H : Hp) (v : V) : Prop := ∃ u p c, v = .ref u ∧ H u = some (.tup [.int p, .ref c]) ∧ 0 ≤ p ∧ p ≤ 8 ∧ KtAt H c
theorem PcV.kt {F : Addr → Prop} {H G : Hp} (k : Kt F H G) {v : V} (h : PcV H v) : PcV G v := let ⟨u, p, c, e, q, h0, h8, z⟩ := h; ⟨u, p, c, e, k.tup q, h0, h8, z.kt k⟩
section
variable {P : Program} {w : World} {K : PySem.W.Frag} {mg : Str → Option Value} {base : Heap} {A : Ad} {tp : Nat → Addr} {B C fI : Addr}
/-! ### take -/
theorem scTk : FnScope ["self", "entry"] ["self", "entry"] (defScope s_Table_take) := ⟨rfl, rfl, rfl, by decide +kernel, rfl, by decide +kernel, by decide +kernel⟩
def spTakeT (A : Ad) : Sp := fun vs H Q _ => ∃ (a r h g : Addr) (t : TT) (n : Nat) (v : V) (e : Ev), vs = [.ref a, v] ∧ TabAt A H a r h g t n ∧ EvAt H v e ∧ e.ok ∧ (∀ m, e = .tick m → t.mom ≤ m) ∧ n ≤ 14000 ∧
  ∀ G r', (r' = r ∨ H r' = none) → TabAt A G a r' h g (t.next e) (n + 5) → Kp (fun b => b = a ∨ b = h) H G → Q .non G
theorem ok_takeT (T : Txt K mg A) (X : Ex P w K mg A B C fI) : ∃ fd, FnOk P w K mg base CX0 6 (A.m 44 2) fd ["self", "entry"] (spTakeT A) ∧ Binds K fd ["self", "entry"] [] := by
  obtain ⟨fd, F⟩ := T.m_Table_take.fn
  obtain ⟨fdD, G_Table_take_deal, b_Table_take_deal⟩ := ok_take_deal (P := P) (w := w) (base := base) T X
  refine ⟨fd, F.ok scTk (fun vs H Q E h => ?_) (fun cdv Ar outer s H vs Q E hr h => ?_), F.binds fun _ _ _ _ _ _ us hl => match us, hl with | [_, _], _ => rfl⟩
  · obtain ⟨a, r, h, g, t, n, v, e, rfl, _⟩ := h
    rfl
  · obtain ⟨a, r, h, g, t, n, v, e, rfl, TA, hv, hok, hmo, hn, k⟩ := h
    refine ⟨_, (pss_cons (ps_fldaug (pv 0) pe_int in_add)
      (pss_one (ps_if (pt_cmpR op_eq (pe_ix ix_tup (pv 1) pe_int (fun _ _ => rfl)) pe_str (nomark _))
        (pss_one (ps_fld (pv 0) (pe_ix ix_tup (pv 1) pe_int (fun _ _ => rfl)) rfl))
        (pss_one (ps_expr (pe_meth (pv 0) T.cl_Table T.m_Table_take_deal.me G_Table_take_deal (hr.mono (by first | decide | omega)) b_Table_take_deal .nil pass0 (pa_cons (pv 1) pa_nil))))))), ?_⟩
    obtain ⟨dx, ea⟩ := TA.at_
    refine ⟨_, rfl, a, A.c 44, dx, _, _, rfl, ea, T.cl_Table, T.n_Table_number, l_num .., _, _, rfl, rfl, dx, _, ea, by show 4 < 1000; decide, ?_⟩
    rw [p_num]
    have k1 : Kp (fun b => b = a) H (upd H a (.ins (A.c 44) dx (tfl (t.num + 1) t.mom r h))) := Kp.updI ea rfl
    have nf : ∀ {b o}, (∀ C2 d2 f2, o ≠ .ins C2 d2 f2) → H b = some o → ¬ b = a := fun {b o} ho e z => by
      rw [z, ea] at e
      cases e
      exact ho _ _ _ rfl
    obtain ⟨_, er⟩ := TA.rows.dc
    obtain ⟨_, eh⟩ := TA.hands.dc
    obtain ⟨_, eg⟩ := TA.gone.dc
    have nr := nf (fun _ _ _ z => by cases z) er
    have nh := nf (fun _ _ _ z => by cases z) eh
    have ng := nf (fun _ _ _ z => by cases z) eg
    have T1 : TabAt A (upd H a (.ins (A.c 44) dx (tfl (t.num + 1) t.mom r h))) a r h g ⟨t.rows, t.mom, t.num + 1, t.hands⟩ n := ⟨⟨dx, upd_same⟩, TA.rows.kt k1.t nr, TA.hands.kt k1.t nh, TA.gone.kt k1.t ng, TA.rh⟩
    have e1 : upd H a (.ins (A.c 44) dx (tfl (t.num + 1) t.mom r h)) a = some (.ins (A.c 44) dx (tfl (t.num + 1) t.mom r h)) := upd_same
    generalize upd H a (.ins (A.c 44) dx (tfl (t.num + 1) t.mom r h)) = G1 at k1 T1 e1 ⊢
    have hv1 := hv.kt k1.t
    cases e with
    | tick m =>
      obtain ⟨u, rfl, hu⟩ := hv1
      refine ⟨_, rfl, u, _, 0, .str "tick", rfl, rfl, SqT.of hu, rfl, rfl, _, rfl, iteT ?_⟩
      refine ⟨_, rfl, u, _, 1, .int m, rfl, rfl, SqT.of hu, rfl, _, rfl, a, A.c 44, dx, _, rfl, e1, T.cl_Table, T.n_Table_moment, by show 4 < 1000; decide, ?_⟩
      rw [p_mom]
      have k2 : Kp (fun b => b = a) G1 (upd G1 a (.ins (A.c 44) dx (tfl (t.num + 1) m r h))) := Kp.updI e1 rfl
      exact k _ r (.inl rfl) ⟨⟨dx, upd_same⟩, ((T1.rows.kt k2.t nr).later (hmo m rfl)).le (by omega), (T1.hands.kt k2.t nh).le (by omega), (T1.gone.kt k2.t ng).le (by omega), TA.rh⟩ ((k1.trans k2 fun _ z => .inl z).sub fun _ z => .inl z)
    | deal hd x ds =>
      obtain ⟨h0, h3, h4⟩ := hok
      obtain ⟨u, dv, rfl, hu, hds⟩ := hv1
      refine ⟨_, rfl, u, _, 0, .str "deal", rfl, rfl, SqT.of hu, rfl, rfl, _, rfl, iteF ?_⟩
      refine ⟨_, rfl, a, dx, _, rfl, e1, rfl, _, rfl, a, r, h, g, u, _, n, hd, x, dv, ds, rfl, T1, hu, hds, h0, h3, h4, hn, fun G r' hr' TG kG => ?_⟩
      refine k G r' (hr'.imp id fun z => k1.free z fun y => ?_) TG ((k1.sub fun _ z => .inl z).trans kG fun _ z => .inl z)
      rw [show r' = a from y, e1] at z
      cases z
/-! ### unlike -/
abbrev NscUn : List Str := ["self", "other", "page"]
theorem scUn : FnScope NscUn ["self", "other"] (defScope s_Table_unlike) := ⟨rfl, rfl, rfl, by decide +kernel, rfl, by decide +kernel, by decide +kernel⟩
def spUnlike (A : Ad) (tp : Nat → Addr) : Sp := fun vs H Q _ => ∃ (a r h g : Addr) (t : TT) (n : Nat) (a2 r2 h2 g2 : Addr) (t2 : TT) (n2 : Nat), vs = [.ref a, .ref a2] ∧ TabAt A H a r h g t n ∧ TabAt A H a2 r2 h2 g2 t2 n2 ∧ Tg (tL tp) H ∧
  ∀ G l xs, H l = none → Kg (tL tp) No H G → G l = some (.lst xs) → (∀ v ∈ xs, PcV G v) → xs.length ≤ 9 → Q (.ref l) G
theorem ok_unlike (T : Txt K mg A) (TB : TbsB base mg A tp) : ∃ fd, FnOk P w K mg base CX0 7 (A.m 44 11) fd ["self", "other"] (spUnlike A tp) ∧ Binds K fd ["self", "other"] [] := by
  obtain ⟨fd, F⟩ := T.m_Table_unlike.fn
  obtain ⟨fdK, Gk, bk⟩ := ok_kept (P := P) (w := w) (base := base) T TB
  refine ⟨fd, F.ok scUn (fun vs H Q E h => ?_) (fun cdv Ar outer s H vs Q E hr h => ?_), F.binds fun _ _ _ _ _ _ us hl => match us, hl with | [_, _], _ => rfl⟩
  · obtain ⟨a, r, h, g, t, n, a2, r2, h2, g2, t2, n2, rfl, _⟩ := h
    rfl
  · obtain ⟨a, r, h, g, t, n, a2, r2, h2, g2, t2, n2, rfl, TA, TA2, TG, k⟩ := h
    refine ⟨_, pss_one (ps_ret (pe_lc (own := [("page", 2)]) (g := gName 2) (tt := tTest (tOp (rNeD K) (tMeth (A.c 44) "kept" (spKept A tp) [] E0 (tVar 1) (tCons (tVar 2) tNil)) (tMeth (A.c 44) "kept" (spKept A tp) [] E0 (tVar 0) (tCons (tVar 2) tNil)))) (te := tTup (tCons (tVar 2) (tCons (tMeth (A.c 44) "kept" (spKept A tp) [] E0 (tVar 1) (tCons (tVar 2) tNil)) tNil))) (by rfl) scUn.nd (pi_range1 (by rfl) T.range (pa_cons (pe_glob (v := .int 9) rfl T.k_PAGES.choose_spec ⟨_, rfl⟩) pa_nil)) (blkOk_by (N := NscUn) (sc := defScope s_Table_unlike) (by decide +kernel)) (fun _ _ _ _ _ => pg_name (i := 2) scUn.nd rfl (Or.inl rfl))
      (fun _ _ _ _ _ => by exact pts_one (pt_cmpR (op_neD hr.units) (pe_meth (pv 1) T.cl_Table T.m_Table_kept.me Gk hr bk .nil pass0 (pa_cons (pv 2) pa_nil)) (pe_meth (pv 0) T.cl_Table T.m_Table_kept.me Gk hr bk .nil pass0 (pa_cons (pv 2) pa_nil)) (nomark _)))
      (fun _ _ _ _ _ => by exact pe_tup (pa_cons (pv 2) (pa_cons (pe_meth (pv 1) T.cl_Table T.m_Table_kept.me Gk hr bk .nil pass0 (pa_cons (pv 2) pa_nil)) pa_nil))))), ?_⟩
    have nfD : ∀ {D : Addr} {a r h g : Addr} {t : TT} {n : Nat}, TabAt A H a r h g t n → H D = none → ∀ b, b = D → ¬ tF a r h g b := fun {D a r h g t n} TA nD b z y => by
      obtain ⟨o, e⟩ := TA.there y
      rw [z, nD] at e
      cases e
    refine ⟨9, rfl, by decide, by decide, fun D nD => ?_⟩
    refine lc_range (lo := 0) (n := (9 : Int).toNat) (fun i J => Kg (tL tp) (fun b => b = D) H J ∧ ∃ xs, J D = some (.lst xs) ∧ xs.length ≤ i ∧ ∀ v ∈ xs, PcV J v) ⟨Kg.of (Kp.new nD), [], upd_same, Nat.le_refl _, fun _ z => by cases z⟩ ?_ ?_
    · rintro i J hi ⟨kJ, xs, hD, hl, hp⟩
      have hi9 : i < 9 := by simpa using hi
      have T2J := TA2.kt kJ.t (nfD TA2 nD)
      obtain ⟨dx2, e2⟩ := T2J.at_
      refine ⟨rfl, _, rfl, a2, dx2, _, rfl, e2, rfl, _, rfl, a2, r2, h2, g2, t2, n2, 0 + (i : Nat), rfl, T2J, TG.kg kJ, by omega, by omega, fun G1 b1 nb1 k1 q1 => ?_⟩
      have kG1 : Kg (tL tp) (fun b => b = D) H G1 := kJ.trans k1 fun _ z => False.elim z
      have T1J := TA.kt kG1.t (nfD TA nD)
      obtain ⟨dx1, e1⟩ := T1J.at_
      refine ⟨_, rfl, a, dx1, _, rfl, e1, rfl, _, rfl, a, r, h, g, t, n, 0 + (i : Nat), rfl, T1J, TG.kg kG1, by omega, by omega, fun G2 b2 nb2 k2 q2 => ?_⟩
      obtain ⟨d1, hd1⟩ := dt_kt (K := K) (q1.kt k2.t)
      obtain ⟨d2, hd2⟩ := dt_kt (K := K) q2
      have kG2 : Kg (tL tp) (fun b => b = D) H G2 := kG1.trans k2 fun _ z => False.elim z
      have kJ2 : Kg (tL tp) No J G2 := k1.trans k2 fun _ z => False.elim z
      refine ⟨d1, d2, hd1.1, hd2.1, hd1.shaped (by decide), hd2.shaped (by decide), _, rfl, ite2 (fun _ => ?_) (fun _ => ?_)⟩
      · have T3J := TA2.kt kG2.t (nfD TA2 nD)
        obtain ⟨dx3, e3⟩ := T3J.at_
        refine ⟨_, rfl, _, rfl, a2, dx3, _, rfl, e3, rfl, _, rfl, a2, r2, h2, g2, t2, n2, 0 + (i : Nat), rfl, T3J, TG.kg kG2, by omega, by omega, fun G3 b3 nb3 k3 q3 => ⟨sz 2 (by decide), fun u nu => ?_⟩⟩
        have kJ3 : Kg (tL tp) No J G3 := kJ2.trans k3 fun _ z => False.elim z
        have ku : Kp No G3 (upd G3 u (.tup [.int (0 + (i : Nat)), .ref b3])) := Kp.new nu
        have hDu := ku.t.lst (kJ3.t.lst hD fun z => z) fun z => z
        have kF : Kp (fun b => b = D) (upd G3 u (.tup [.int (0 + (i : Nat)), .ref b3])) _ := Kp.updL (o' := .lst (xs ++ [.ref u])) hDu rfl
        refine ⟨xs, hDu, szL (by omega), ((kG2.trans k3 fun _ z => False.elim z).trans (Kg.of ku) fun _ z => False.elim z).trans (Kg.of kF) (fun _ z => .inl z), xs ++ [.ref u], upd_same, by rw [List.length_append]; simp only [List.length_cons, List.length_nil]; omega, fun v hv => ?_⟩
        rcases List.mem_append.mp hv with z | z
        · exact (((hp v z).kt kJ3.t).kt ku.t).kt kF.t
        · rw [List.mem_singleton.mp z]
          exact PcV.kt kF.t ⟨u, 0 + (i : Nat), b3, rfl, upd_same, by omega, by omega, q3.kt ku.t⟩
      · exact ⟨kG2, xs, kJ2.t.lst hD (fun z => z), by omega, fun v hv => (hp v hv).kt kJ2.t⟩
    · rintro J ⟨kJ, xs, hD, hl, hp⟩
      exact k J D xs nD (kJ.fresh fun b z => by rw [z]; exact nD) hD hp hl
/-! ### shed -/
theorem rows_at (f : Rw) (ks : List Int) (i : Nat) (y : Int × Int × Int) (h : (ks.filterMap (rowOf f))[i]? = some y) : y.1 ∈ ks ∧ f y.1 = some (y.2.1, y.2.2) := by
  obtain ⟨k, hk, e⟩ := List.mem_filterMap.mp (List.mem_of_getElem? h)
  unfold rowOf at e
  cases q : f k with
  | none => rw [q] at e; cases e
  | some x =>
    rw [q] at e
    cases e
    exact ⟨hk, q⟩
theorem keys_inc (lo : Int) (n : Nat) : (keysFrom lo n).Pairwise (· < ·) := by
  unfold keysFrom
  rw [List.pairwise_map]
  exact List.Pairwise.imp (fun {a b} h => by omega) List.pairwise_lt_range
theorem rows_inc (f : Rw) (ks : List Int) (h : ks.Pairwise (· < ·)) : (ks.filterMap (rowOf f)).Pairwise fun a b => a.1 < b.1 := by
  rw [List.pairwise_filterMap]
  refine h.imp fun {a b} hab x hx y hy => ?_
  unfold rowOf at hx hy
  obtain ⟨u, _, rfl⟩ := Option.map_eq_some_iff.mp hx
  obtain ⟨v, _, rfl⟩ := Option.map_eq_some_iff.mp hy
  exact hab
/-- the rows of a page from the i-th on stand yet -/
def Left (f f' : Rw) (p : Int) (i : Nat) : Prop := ∀ j y, i ≤ j → (pgRows f p)[j]? = some y → f' y.1 = some (y.2.1, y.2.2)
theorem Left.new (f : Rw) (p : Int) : Left f f p 0 := fun j y _ h => (rows_at f _ j y h).2
theorem Left.del {f f' : Rw} {p : Int} {i : Nat} {y : Int × Int × Int} (l : Left f f' p i) (hy : (pgRows f p)[i]? = some y) : Left f (f'.set y.1 none) p (i + 1) := fun j z hj hz => by
  have h := l j z (by omega) hz
  have hp := rows_inc f _ (keys_inc (p * 4) 4)
  have hlt : y.1 < z.1 := by
    obtain ⟨hi, e1⟩ := List.getElem?_eq_some_iff.mp hy
    obtain ⟨hj2, e2⟩ := List.getElem?_eq_some_iff.mp hz
    rw [← e1, ← e2]
    exact List.pairwise_iff_getElem.mp hp i j hi hj2 (by omega)
  unfold Rw.set
  rw [if_neg (by omega)]
  exact h
theorem scShd : FnScope ["self", "page", "row"] ["self", "page"] (defScope s_Table_shed) := ⟨rfl, rfl, rfl, by decide +kernel, rfl, by decide +kernel, by decide +kernel⟩
def spShed (A : Ad) (tp : Nat → Addr) : Sp := fun vs H Q _ => ∃ (a r h g : Addr) (t : TT) (n : Nat) (p : Int), vs = [.ref a, .int p] ∧ TabAt A H a r h g t n ∧ Tg (tL tp) H ∧ 0 ≤ p ∧ p ≤ 8 ∧ n ≤ 14000 ∧
  ∀ G, TabAt A G a r h g t (n + 4) → Kg (tL tp) (fun b => b = r) H G → Q .non G
theorem ok_shed (T : Txt K mg A) (TB : TbsB base mg A tp) : ∃ fd, FnOk P w K mg base CX0 6 (A.m 44 13) fd ["self", "page"] (spShed A tp) ∧ Binds K fd ["self", "page"] [] := by
  obtain ⟨fd, F⟩ := T.m_Table_shed.fn
  obtain ⟨fdP, G_Table_page_rows, b_Table_page_rows⟩ := ok_page_rows (P := P) (w := w) (base := base) T TB
  obtain ⟨fdS, Gis_shown, bis_shown⟩ := ok_is_shown (P := P) (w := w) (base := base) T
  refine ⟨fd, F.ok scShd (fun vs H Q E h => ?_) (fun cdv Ar outer s H vs Q E hr h => ?_), F.binds fun _ _ _ _ _ _ us hl => match us, hl with | [_, _], _ => rfl⟩
  · obtain ⟨a, r, h, g, t, n, p, rfl, _⟩ := h
    rfl
  · obtain ⟨a, r, h, g, t, n, p, rfl, TA, TG, p0, p8, hn, k⟩ := h
    have hu := hu_of hr
    refine ⟨_, (pss_one (ps_for PassesOwn.never rfl (pi_tup (pe_meth (pv 0) T.cl_Table T.m_Table_page_rows.me G_Table_page_rows (hr.mono (by first | decide | omega)) b_Table_page_rows .nil pass0 (pa_cons (pv 1) pa_nil))) (pg_name (i := 2) scShd.nd rfl (Or.inl rfl))
        (pss_one (ps_if (pt_not (pt_val (pe_call Gis_shown (hr.mono (by first | decide | omega)) rfl T.is_shown.at_ T.is_shown.kp bis_shown .nil pass0 (pa_cons (pe_ix ix_tup (pv 2) pe_int (fun _ _ => rfl)) (pa_cons (pe_fld (pv 0) rfl) pa_nil)))))
          (pss_one (ps_ddel (pe_fld (pv 0) rfl) (pe_ix ix_tup (pv 2) pe_int (fun _ _ => rfl))))
          pss_nil)))), ?_⟩
    obtain ⟨dx, ea⟩ := TA.at_
    obtain ⟨kr0, er⟩ := TA.rows.dc
    have nra : r ≠ a := ne_of er ea (by intro z; cases z)
    refine ⟨_, rfl, a, dx, _, rfl, ea, rfl, _, rfl, a, r, h, g, t, n, p, rfl, TA, TG, p0, p8, fun G1 c f sf nc kg hpg R1 => ?_⟩
    obtain ⟨xs, hc, pc⟩ := hpg
    have T1 := TA.no kg.t
    refine ⟨c, rfl, ⟨_, SqT.of hc⟩, for_tup (K := K) (a := c) (xs := xs) (fun i σ J => (∃ o, σ = [some (.ref a), some (.int p), o]) ∧ Kp (fun b => b = r) G1 J ∧ GoAt J g n ∧ ∃ f', Sim t.mom f' t.rows ∧ Left f f' p i ∧ RwAt J r f' n) ⟨⟨_, rfl⟩, Kp.refl _ _, T1.gone, f, sf, Left.new f p, R1⟩ (fun i σ J _ ⟨_, kJ, _⟩ => SqT.of (kJ.t.tup hc)) ?_ ?_⟩
    · rintro i x σ J hx ⟨⟨o, rfl⟩, kJ, gJ, f', sf', lf, RJ⟩
      obtain ⟨y, hy, q, rfl, hq⟩ := paired_at pc hx
      have hqJ := kJ.t.tup hq
      obtain ⟨dx1, e1⟩ := T1.at_
      have eJ := kJ.t.ins e1 nra.symm
      refine ⟨_, rfl, q, _, 2, .int y.2.2, rfl, rfl, SqT.of hqJ, rfl, _, rfl, a, A.c 44, dx1, _, _, rfl, eJ, T.cl_Table, T.n_Table_moment, l_mom .., y.2.2, t.mom, rfl, _, rfl, ?_⟩
      have RJ' := RJ
      obtain ⟨kvs, hd, hkl, hf⟩ := RJ'
      have hy' := lf i y (Nat.le_refl _) hy
      have q1 := hf y.1
      rw [hy'] at q1
      obtain ⟨u, q1, q2⟩ := q1
      refine ite2 (fun z => ?_) (fun z => ⟨⟨_, rfl⟩, kJ, gJ, f', sf', fun j z hj hz => lf j z (by omega) hz, RJ⟩)
      refine ⟨_, rfl, a, A.c 44, dx1, _, _, rfl, eJ, T.cl_Table, T.n_Table_rows, l_rows .., _, rfl, q, _, 0, .int y.1, rfl, rfl, SqT.of hqJ, rfl, r, _, Sum.inl y.1, rfl, hd, rfl, (by rw [q1]; rfl), ?_⟩
      refine ⟨⟨_, rfl⟩, kJ.andD hd rfl, gJ.up hd, f'.set y.1 none, (Sim.drop ?_).trans sf', lf.del hy, RJ.del hd⟩
      unfold shw
      rw [hy']
      exact if_neg (by simpa using z)
    · rintro σ J ⟨⟨o, rfl⟩, kJ, gJ, f', sf', _, RJ⟩
      have kF : Kg (tL tp) (fun b => b = r) H J := (kg.sub fun _ z => False.elim z).trans (Kg.of kJ) fun _ z => .inl z
      obtain ⟨dx1, e1⟩ := T1.at_
      exact k J ⟨⟨dx1, kJ.t.ins e1 nra.symm⟩, ⟨f', sf', RJ.le (by omega)⟩, (T1.hands.kt kJ.t fun z => TA.rh z.symm).le (by omega), gJ.le (by omega), TA.rh⟩ kF
end
end S02

set_option Elab.async false
set_option linter.all false
set_option maxRecDepth 100000
set_option maxHeartbeats 4000000
/-! ### the disk as the store uses it: no deed fails -/
namespace S02
open PySem PySem.Spec PyProof.Rows L2 K5 SupX GenX
def dAd (A : Ad) : K5.Ad := ⟨A.d 25, A.d 59, A.d 60, A.c 61, fun j => A.m 61 j, A.c 11, A.c 12⟩
theorem dTx {K : PySem.W.Frag} {mg : Str → Option Value} {A : Ad} (T : Txt K mg A) : K5.Txt K mg (dAd A) :=
  ⟨⟨T.within.fn, T.within.at_⟩, ⟨T.is_too_heavy.fn, T.is_too_heavy.at_⟩, ⟨T.check_block.fn, T.check_block.at_⟩, T.k_BLOCKS, T.k_MOST_WEIGHT,
   ⟨T.x_BadBlock.at_, T.x_BadBlock.ex, T.x_BadBlock.kp, T.x_BadBlock.sb, T.x_BadBlock.ty⟩, ⟨T.x_Stopped.at_, T.x_Stopped.ex, T.x_Stopped.kp, T.x_Stopped.sb, T.x_Stopped.ty⟩,
   T.isinstance, T.int, T.bool, T.tuple, T.list, T.zip, T.cl_Disk, T.n_Disk_sure, T.n_Disk_unsure, T.n_Disk_deeds_left, T.n_Disk_armed_picks, T.n_Disk_running, T.n_Disk_stops,
   ⟨T.m_Disk___init__.fn, T.m_Disk___init__.me⟩, ⟨T.m_Disk_write.fn, T.m_Disk_write.me⟩, ⟨T.m_Disk_settle.fn, T.m_Disk_settle.me⟩, ⟨T.m_Disk_read.fn, T.m_Disk_read.me⟩, ⟨T.m_Disk_arm.fn, T.m_Disk_arm.me⟩, ⟨T.m_Disk_stop.fn, T.m_Disk_stop.me⟩, ⟨T.m_Disk_again.fn, T.m_Disk_again.me⟩, ⟨T.m_Disk_settled.fn, T.m_Disk_settled.me⟩, ⟨T.m_Disk_check_running.fn, T.m_Disk_check_running.me⟩, ⟨T.m_Disk_count_deed.fn, T.m_Disk_count_deed.me⟩⟩
/-- it runs, and k deeds may be done -/
def Enough (m : M) (k : Int) : Prop := m.run = true ∧ ∀ l, m.left = some l → k ≤ l
theorem Enough.le {m : M} {k j : Int} (h : Enough m k) (l : j ≤ k) : Enough m j := ⟨h.1, fun x e => Int.le_trans l (h.2 x e)⟩
theorem Enough.one {m : M} {k : Int} (h : Enough m k) (h1 : 1 ≤ k) : m.count.1 = true ∧ Enough m.count.2 (k - 1) := by
  obtain ⟨hr, hl⟩ := h
  have hc : m.count.1 = true := by
    unfold M.count
    rw [if_pos hr]
    cases e : m.left with
    | none => rfl
    | some l =>
      have := hl l e
      show (if l ≤ 0 then (false, m.stop m.picks) else _).1 = true
      rw [if_neg (by omega)]
  obtain ⟨_, _, e3, e4, _⟩ := count_true hc
  refine ⟨hc, e3, fun l e => ?_⟩
  rcases e4 with e4 | ⟨l', h0, h1, h2⟩
  · rw [e4] at e
    have := hl l e
    omega
  · rw [h2] at e
    cases e
    have := hl l' h1
    omega
section
variable {A : K5.Ad} {K : PySem.W.Frag} {H : Hp} {p ls lu : Addr} {m : M} {Q : VK}
theorem count_stops {m : M} (h : m.count.1 = true) : m.count.2.stops = m.stops := by
  unfold M.count at h ⊢
  by_cases hr : m.run = true
  · rw [if_pos hr] at h ⊢
    cases e : m.left with
    | none => rfl
    | some l =>
      rw [e] at h
      by_cases hl : l ≤ 0
      · have h : (if l ≤ 0 then (false, m.stop m.picks) else _).1 = true := h
        rw [if_pos hl] at h
        cases h
      · show (if l ≤ 0 then (false, m.stop m.picks) else _).2.stops = _
        rw [if_neg hl]
  · rw [if_neg hr] at h
    cases h
/-- a write that is done -/
theorem dk_write {n : Int} {v : V} {d x z : Nat} (D : DiskAt A H p ls lu m) (Gm : Good m) (hf : m.pend.length < 1000) (hd : DatK K H d v x z) (hz : z ≤ 10000) (f : Fits n x) (en : m.count.1 = true)
    (k : ∀ G, Kp (dF p ls lu) H G → DiskAt A G p ls lu (m.count.2.write n v) → Q .non G) : spDk1 A K [.ref p, .int n, v] H Q (fun _ _ _ => False) := by
  refine ⟨p, ls, lu, m, n, v, d, x, z, rfl, D, Gm, hf, hd, hz, fun G lu' hl kG => ⟨fun nf => absurd f nf, fun _ _ e DG => ?_, fun _ c => by rw [en] at c; cases c⟩⟩
  subst e
  exact k G kG DG
theorem dk_settle (D : DiskAt A H p ls lu m) (Gm : Good m) (en : m.count.1 = true)
    (k : ∀ G lu', (lu' = lu ∨ H lu' = none) → Kp (dF p ls lu) H G → DiskAt A G p ls lu' m.count.2.settle → Q .non G) : spDk2 A [.ref p] H Q (fun _ _ _ => False) := by
  refine ⟨p, ls, lu, m, rfl, D, Gm, fun G lu' hl kG => ⟨fun _ DG => k G lu' hl kG DG, fun c => by rw [en] at c; cases c⟩⟩
theorem dk_read {n : Int} (D : DiskAt A H p ls lu m) (Gm : Good m) (h0 : 0 ≤ n) (h1 : n ≤ 34) (hr : m.run = true) (hp : m.pend = [])
    (k : ∀ G, Kp No H G → Q (m.sure.getD n.toNat .non) G) : spDk3 A [.ref p, .int n] H Q (fun _ _ _ => False) := by
  refine ⟨p, ls, lu, m, n, rfl, D, Gm, fun G kG => ⟨fun z => absurd ⟨h0, h1⟩ z, (fun _ _ z => by rw [hr] at z; cases z), fun _ _ _ => ?_⟩⟩
  have := k G kG
  unfold M.get
  rw [hp]
  exact this
end
/-! the root and the store -/
def sfl (d : Addr) (st : Int) (r : V) : List (Str × V) := [("disk", .ref d), ("stops", .int st), ("root", r)]
section
variable (d : Addr) (st : Int) (r v : V)
theorem l_sdisk : (sfl d st r).lookup ("disk" : Str) = some (.ref d) := rfl
theorem l_sstops : (sfl d st r).lookup ("stops" : Str) = some (.int st) := rfl
theorem l_sroot : (sfl d st r).lookup ("root" : Str) = some r := rfl
theorem p_sroot : putF "root" v (sfl d st r) = sfl d st v := rfl
end
structure RtAt (K : PySem.W.Frag) (H : Hp) (r : Addr) (num : Int) : Prop where
  ex : ∃ (run : Int) (p : Addr) (pl : List Int), SqT K H r [.int run, .int num, .ref p] ∧ SqT K H p (pl.map V.int) ∧ pl.length = 9 ∧ ∀ i ∈ pl, i = 0 ∨ i = 1
theorem RtAt.kt {K : PySem.W.Frag} {F : Addr → Prop} {H G : Hp} (k : Kt F H G) {r : Addr} {num : Int} (h : RtAt K H r num) : RtAt K G r num := by
  obtain ⟨run, p, pl, h1, h2, h3⟩ := h.ex
  exact ⟨run, p, pl, SqT.kt k h1, SqT.kt k h2, h3⟩
theorem sumInts {K : PySem.W.Frag} {H : Hp} {n : Nat} : ∀ (pl : List Int), SumD (DatK K H (n + 1)) (pl.map V.int) pl.length pl.length
  | [] => ⟨rfl, rfl⟩
  | i :: pl => ⟨1, pl.length, 1, pl.length, DatK.leaf rfl, sumInts pl, by rw [List.length_cons]; omega, by rw [List.length_cons]; omega⟩
theorem RtAt.dat {K : PySem.W.Frag} {H : Hp} {r : Addr} {num : Int} (h : RtAt K H r num) : DatK K H 3 (.ref r) 11 13 := by
  obtain ⟨run, p, pl, h1, h2, h3, _⟩ := h.ex
  refine .inr ⟨r, _, 12, rfl, h1, ⟨1, 10, 1, 11, DatK.leaf rfl, ⟨1, 9, 1, 10, DatK.leaf rfl, ⟨9, 0, 10, 0, .inr ⟨p, _, 9, rfl, h2, ?_, rfl⟩, ⟨rfl, rfl⟩, rfl, rfl⟩, rfl, rfl⟩, rfl, rfl⟩, rfl⟩
  have := sumInts (K := K) (H := H) (n := 0) pl
  rw [h3] at this
  exact this
theorem RtAt.dp {K : PySem.W.Frag} {H : Hp} {r : Addr} {num : Int} (h : RtAt K H r num) : ∃ d, Dp K H (.ref r) d ∧ SeqAt.shaped d = true ∧ PyData.eqv d d = true := by
  obtain ⟨run, p, pl, h1, h2, h3, _⟩ := h.ex
  have hp : ∃ ds, DtA K H 0 (pl.map V.int) ds := by
    clear h3 h2
    induction pl with
    | nil => exact ⟨_, DtA.nil 0⟩
    | cons i pl ih =>
      obtain ⟨ds, hd⟩ := ih (fun j hj => by rename_i h; exact h j (List.mem_cons_of_mem _ hj))
      exact ⟨_, (Dt.int 0 i).cons hd⟩
  obtain ⟨ds, hd⟩ := hp
  have h4 : Dt K H 1 (.ref p) (.tuple ds) := ⟨.tup h2 hd.1, by simp only [PyData.canLay0]; exact hd.2.1, by simp only [PyData.depth]; have := hd.2.2; omega⟩
  have ha : DtA K H 1 [.int run, .int num, .ref p] _ := (Dt.int 1 run).cons ((Dt.int 1 num).cons (h4.cons (DtA.nil 1)))
  have h5 : Dt K H 2 (.ref r) (.tuple _) := ⟨.tup h1 ha.1, by simp only [PyData.canLay0]; exact ha.2.1, by simp only [PyData.depth]; have := ha.2.2; omega⟩
  exact ⟨_, h5.1, h5.shaped (by decide), h5.same⟩
/-- a store s of the disk d: it runs, nothing is unsettled, its root is r -/
structure StAt (A : Ad) (H : Hp) (s d ls lu r : Addr) (m : M) : Prop where
  at_ : ∃ dx, H s = some (.ins (A.c 52) dx (sfl d m.stops (.ref r)))
  dk : DiskAt (dAd A) H d ls lu m
  gd : Good m
  run : m.run = true
  pend : m.pend = []
def sF (s d ls lu : Addr) : Addr → Prop := fun b => b = s ∨ b = d ∨ b = ls ∨ b = lu
theorem StAt.kt {A : Ad} {F : Addr → Prop} {H G : Hp} {s d ls lu r : Addr} {m : M} (k : Kt F H G) (S : StAt A H s d ls lu r m) (n : ∀ b, F b → ¬ sF s d ls lu b) : StAt A G s d ls lu r m := by
  obtain ⟨dx, e⟩ := S.at_
  exact ⟨⟨dx, k.ins e fun z => n _ z (.inl rfl)⟩, S.dk.kt k fun b z y => n b z (.inr y), S.gd, S.run, S.pend⟩
theorem ne_sd {H : Hp} {C C2 dx dx2 s d d2 ls lu tp : Addr} {st st2 : Int} {r lf : V} {rn : Bool} (h1 : H s = some (.ins C dx (sfl d2 st r))) (h2 : H d = some (.ins C2 dx2 (dfl ls lu lf tp rn st2))) : s ≠ d := by
  intro z
  rw [z, h2] at h1
  cases h1
theorem StAt.nes {A : Ad} {H : Hp} {s d ls lu r : Addr} {m : M} (S : StAt A H s d ls lu r m) : ¬ dF d ls lu s := by
  obtain ⟨dx, e⟩ := S.at_
  obtain ⟨dx2, tp, st, h1, _⟩ := S.dk.ex
  obtain ⟨rs, h3, _⟩ := S.dk.uns
  rintro (z | z | z)
  · exact ne_sd e h1 z
  · exact ne_of e S.dk.sure (by intro z; cases z) z
  · exact ne_of e h3 (by intro z; cases z) z
end S02

set_option Elab.async false
set_option linter.all false
set_option maxRecDepth 100000
set_option maxHeartbeats 4000000
namespace S02
open PySem PySem.Spec PyProof.Rows L2 K5 SupX GenX
section
variable {P : Program} {w : World} {K : PySem.W.Frag} {mg : Str → Option Value} {base : Heap} {A : Ad}
/-! ### write_root -/
theorem scWr : FnScope ["self", "root"] ["self", "root"] (defScope s_Store_write_root) := ⟨rfl, rfl, rfl, by decide +kernel, rfl, by decide +kernel, by decide +kernel⟩
/-- the root is settled: what is there behind it -/
def WrQ (A : Ad) (s d ls lu r : Addr) (H : Hp) (m : M) (e : Int) (Q : Hp → Prop) : Prop := ∀ G lu' m', (lu' = lu ∨ H lu' = none) → Kp (sF s d ls lu) H G → StAt A G s d ls lu' r m' → m'.sure[0]? = some (.ref r) → m'.stops = m.stops → Enough m' e → Q G
def spWr (A : Ad) (K : PySem.W.Frag) : Sp := fun vs H Q _ => ∃ (s d ls lu r : Addr) (ro : V) (m : M) (e : Int) (dd x z : Nat), vs = [.ref s, .ref r] ∧ (∃ dx, H s = some (.ins (A.c 52) dx (sfl d m.stops ro))) ∧ DiskAt (dAd A) H d ls lu m ∧ Good m ∧ m.pend = [] ∧ Enough m (e + 2) ∧ 0 ≤ e ∧
  DatK K H dd (.ref r) x z ∧ x ≤ 40 ∧ z ≤ 10000 ∧ WrQ A s d ls lu r H m e (Q .non)
theorem ok_write_root (T : Txt K mg A) : ∃ fd, FnOk P w K mg base CX0 4 (A.m 52 4) fd ["self", "root"] (spWr A K) ∧ Binds K fd ["self", "root"] [] := by
  obtain ⟨fd, F⟩ := T.m_Store_write_root.fn
  obtain ⟨fd1, G_Disk_write, b_Disk_write⟩ := ok_dk1 (P := P) (w := w) (base := base) (dTx T)
  obtain ⟨fd2, G_Disk_settle, b_Disk_settle⟩ := ok_dk2 (P := P) (w := w) (base := base) (dTx T)
  refine ⟨fd, F.ok scWr (fun vs H Q E h => ?_) (fun cdv Ar outer s H vs Q E hr h => ?_), F.binds fun _ _ _ _ _ _ us hl => match us, hl with | [_, _], _ => rfl⟩
  · obtain ⟨s, d, ls, lu, r, ro, m, e, dd, x, z, rfl, _⟩ := h
    rfl
  · obtain ⟨s, d, ls, lu, r, ro, m, e, dd, x, z, rfl, ⟨dx, es⟩, D, Gm, hp, en, he, hd, hx, hz, k⟩ := h
    refine ⟨_, (pss_cons (ps_expr (pe_meth (E := fun _ _ _ => False) (pe_fld (pv 0) rfl) T.cl_Disk T.m_Disk_write.me G_Disk_write (hr.mono (by first | decide | omega)) b_Disk_write .nil (L2N.passes_call takesN0 fun _ _ _ _ h => h) (pa_cons (pe_glob (v := .int 0) rfl T.k_ROOT.choose_spec ⟨_, rfl⟩) (pa_cons (pv 1) pa_nil))))
      (pss_cons (ps_expr (pe_meth0 (E := fun _ _ _ => False) (pe_fld (pv 0) rfl) T.cl_Disk T.m_Disk_settle.me G_Disk_settle (hr.mono (by first | decide | omega)) b_Disk_settle .nil (L2N.passes_call takesN0 fun _ _ _ _ h => h)))
      (pss_one (ps_fld (pv 0) (pv 1) rfl)))), ?_⟩
    obtain ⟨ddx, tp, st, ed, _, _⟩ := D.ex
    obtain ⟨c1, en1⟩ := en.one (by omega)
    refine ⟨_, rfl, s, A.c 52, dx, _, _, rfl, es, T.cl_Store, T.n_Store_disk, l_sdisk .., d, ddx, _, rfl, ed, rfl, _, rfl, ?_⟩
    unfold tNil
    show spDk1 (dAd A) K [.ref d, .int 0, .ref r] H _ _
    refine dk_write (n := 0) D Gm (by rw [hp]; decide) hd hz ⟨by decide, by decide, hx⟩ c1 fun G kG DG => ?_
    have Gm1 : Good (m.count.2.write 0 (.ref r)) := by
      have g := Gm.count c1
      obtain ⟨_, e2, e3, _, _⟩ := count_true c1
      exact ⟨g.len, fun q hq => by
        rcases List.mem_append.mp hq with z | z
        · exact g.blk q z
        · rw [List.mem_singleton.mp z]
          exact ⟨Int.le_refl 0, (by decide : (0 : Int) ≤ 34)⟩, by show (m.count.2.pend ++ _).length ≤ 1000; rw [e2, hp, List.nil_append]; exact (by decide : 1 ≤ 1000), (fun z => by have z : m.count.2.run = false := z; rw [e3] at z; cases z), g.nat⟩
    have hs1 : (m.count.2.write 0 (.ref r)).stops = m.stops := count_stops c1
    have en1' : Enough (m.count.2.write 0 (.ref r)) (e + 2 - 1) := en1
    obtain ⟨c2, en2⟩ := en1'.one (by omega)
    obtain ⟨f1, f2, _, _, _⟩ := count_true c1
    obtain ⟨g1, g2, g3, _, _⟩ := count_true c2
    have hs2 := count_stops c2
    have nes : ¬ dF d ls lu s := by
      obtain ⟨rs, h3, _⟩ := D.uns
      rintro (z | z | z)
      · exact ne_sd es ed z
      · exact ne_of es D.sure (by intro z; cases z) z
      · exact ne_of es h3 (by intro z; cases z) z
    have esG := kG.t.ins es nes
    obtain ⟨ddx2, tp2, st2, ed2, _, _⟩ := DG.ex
    refine ⟨_, rfl, s, A.c 52, dx, _, _, rfl, esG, T.cl_Store, T.n_Store_disk, l_sdisk .., d, ddx2, _, rfl, ed2, rfl, ?_⟩
    show spDk2 (dAd A) [.ref d] G _ _
    refine dk_settle DG Gm1 c2 fun G2 lu' hl kG2 DG2 => ?_
    have esG2 := kG2.t.ins esG nes
    refine ⟨_, rfl, _, rfl, s, A.c 52, dx, _, rfl, esG2, T.cl_Store, T.n_Store_root, by show 3 < 1000; decide, ?_⟩
    rw [p_sroot]
    have k3 : Kp (fun b => b = s) G2 (upd G2 s (.ins (A.c 52) dx (sfl d m.stops (.ref r)))) := Kp.updI esG2 rfl
    have hlu : lu' = lu ∨ H lu' = none := hl.imp id fun z => kG.free z fun y => by
      rcases y with y | y | y
      · rw [y] at z; rw [ed2] at z; cases z
      · rw [y] at z; rw [DG.sure] at z; cases z
      · obtain ⟨rs, h3, _⟩ := DG.uns
        rw [y, h3] at z; cases z
    have hsd : s ≠ d := fun z => nes (.inl z)
    have nlu : lu' ≠ s := fun z => by
      obtain ⟨rs, h3, _⟩ := DG2.uns
      exact ne_of esG2 h3 (by intro z; cases z) z.symm
    have pd : m.count.2.pend = [] := by rw [f2, hp]
    have sure2 : (m.count.2.write 0 (.ref r)).count.2.settle.sure = m.sure.set 0 (.ref r) := by
      show K5.putAll _ _ = _
      rw [g1, g2]
      show K5.putAll m.count.2.sure (m.count.2.pend ++ [(0, V.ref r)]) = _
      rw [pd, f1]
      rfl
    have hst : (m.count.2.write 0 (.ref r)).count.2.settle.stops = m.stops := by
      show (m.count.2.write 0 (.ref r)).count.2.stops = _
      rw [hs2, hs1]
    have Gm2 : Good (m.count.2.write 0 (.ref r)).count.2.settle := by
      have g := Gm1.count c2
      exact ⟨by rw [sure2, List.length_set]; exact Gm.len, (fun q hq => nomatch hq), Nat.zero_le _, fun _ => rfl, g.nat⟩
    have kF : Kp (sF s d ls lu) H _ := ((kG.trans kG2 fun b z => .inl z).sub (F' := sF s d ls lu) fun b z => .inr z).trans k3 fun b z => .inl (.inl z)
    refine k _ lu' _ hlu kF ⟨⟨dx, by rw [hst]; exact upd_same⟩, DG2.kt k3.t ?_, Gm2, g3, rfl⟩ ?_ hst ?_
    · rintro b rfl (z | z | z)
      · exact hsd z
      · exact nes (.inr (.inl z))
      · exact nlu z.symm
    · rw [sure2, List.getElem?_set_self (by rw [Gm.len]; decide)]
    · exact ⟨g3, fun l e' => by have := en2.2 l e'; omega⟩
/-! ### claim -/
theorem scCl : FnScope ["self", "run", "number", "places"] ["self"] (defScope s_Store_claim) := ⟨rfl, rfl, rfl, by decide +kernel, rfl, by decide +kernel, by decide +kernel⟩
def spClaim (A : Ad) (K : PySem.W.Frag) : Sp := fun vs H Q _ => ∃ (s d ls lu r : Addr) (m : M) (num e : Int), vs = [.ref s] ∧ StAt A H s d ls lu r m ∧ RtAt K H r num ∧ Enough m (e + 2) ∧ 0 ≤ e ∧ ∀ r', WrQ A s d ls lu r' H m e fun G => RtAt K G r' num → Q .non G
theorem ok_claim (T : Txt K mg A) : ∃ fd, FnOk P w K mg base CX0 5 (A.m 52 1) fd ["self"] (spClaim A K) ∧ Binds K fd ["self"] [] := by
  obtain ⟨fd, F⟩ := T.m_Store_claim.fn
  obtain ⟨fd4, G_Store_write_root, b_Store_write_root⟩ := ok_write_root (P := P) (w := w) (base := base) T
  refine ⟨fd, F.ok scCl (fun vs H Q E h => ?_) (fun cdv Ar outer s H vs Q E hr h => ?_), F.binds fun _ _ _ _ _ _ us hl => match us, hl with | [_], _ => rfl⟩
  · obtain ⟨s, d, ls, lu, r, m, num, e, rfl, _⟩ := h
    rfl
  · obtain ⟨s, d, ls, lu, r, m, num, e, rfl, S, R, en, he, k⟩ := h
    refine ⟨_, (pss_cons (ps_asg (pe_fld (pv 0) rfl) (pg_tup rfl (pgs_cons (pg_name (i := 1) scCl.nd rfl (Or.inl rfl)) (pgs_cons (pg_name (i := 2) scCl.nd rfl (Or.inl rfl)) (pgs_cons (pg_name (i := 3) scCl.nd rfl (Or.inl rfl)) pgs_nil)))))
      (pss_one (ps_expr (pe_meth (pv 0) T.cl_Store T.m_Store_write_root.me G_Store_write_root (hr.mono (by first | decide | omega)) b_Store_write_root .nil pass0 (pa_cons (pe_tup (pa_cons (pe_op op_add (pv 1) pe_int) (pa_cons (pv 2) (pa_cons (pv 3) pa_nil)))) pa_nil))))), ?_⟩
    obtain ⟨dx, es⟩ := S.at_
    obtain ⟨run, p, pl, h1, h2, h3, h4⟩ := R.ex
    refine ⟨_, rfl, s, A.c 52, dx, _, _, rfl, es, T.cl_Store, T.n_Store_root, l_sroot .., r, _, rfl, h1, rfl, _, _, rfl, _, _, rfl, _, _, rfl, rfl, ?_⟩
    refine ⟨_, rfl, s, dx, _, rfl, es, rfl, _, rfl, _, _, rfl, rfl, _, rfl, _, rfl, sz 3 (by decide), fun r' nr' => ?_⟩
    unfold tNil
    show spWr A K [.ref s, .ref r'] (upd H r' (.tup [.int (run + 1), .int num, .ref p])) _ _
    have kn : Kp (sF s d ls lu) H (upd H r' (.tup [.int (run + 1), .int num, .ref p])) := Kp.new nr'
    have kN : Kp No H (upd H r' (.tup [.int (run + 1), .int num, .ref p])) := Kp.new nr'
    have S1 := S.kt kN.t fun _ z => False.elim z
    have R1 : RtAt K (upd H r' (.tup [.int (run + 1), .int num, .ref p])) r' num := ⟨_, p, pl, SqT.of upd_same, SqT.kt kN.t h2, h3, h4⟩
    refine ⟨s, d, ls, lu, r', _, m, e, 3, 11, 13, rfl, S1.at_, S1.dk, S1.gd, S1.pend, en, he, R1.dat, by decide, by decide, fun G lu' m' hl kG SG q1 q2 q3 => ?_⟩
    exact k r' G lu' m' (hl.imp id fun z => (upd_none z).2) (kn.trans kG fun b z => .inl z) SG q1 q2 q3 (R1.kt kG.t)
end
end S02

set_option Elab.async false
set_option linter.all false
set_option maxRecDepth 100000
set_option maxHeartbeats 4000000
namespace S02
open PySem PySem.Spec PyProof.Rows L2 K5 SupX GenX
/-! what pages and entries weigh -/
theorem sumB {K : PySem.W.Frag} {H : Hp} {n c e : Nat} {α : Type} {R : V → α → Prop} (h : ∀ v a, R v a → ∃ x z, DatK K H n v x z ∧ x ≤ c ∧ z ≤ e) {xs : List V} {ys : List α} (p : Paired R xs ys) : ∃ x z, SumD (DatK K H n) xs x z ∧ x ≤ c * ys.length ∧ z ≤ e * ys.length := by
  induction p with
  | nil => exact ⟨0, 0, ⟨rfl, rfl⟩, Nat.zero_le _, Nat.zero_le _⟩
  | cons r _ ih =>
    obtain ⟨x, z, h1, h2, h3⟩ := h _ _ r
    obtain ⟨x', z', g1, g2, g3⟩ := ih
    refine ⟨x + x', z + z', ⟨x, x', z, z', h1, g1, rfl, rfl⟩, ?_, ?_⟩
    · rw [List.length_cons, Nat.mul_succ]; omega
    · rw [List.length_cons, Nat.mul_succ]; omega
section
variable {K : PySem.W.Frag} {H : Hp}
theorem leaf1 {n : Nat} {v : V} {vs : List V} {w z : Nat} (h : leafV v = true) (r : SumD (DatK K H (n + 1)) vs w z) : SumD (DatK K H (n + 1)) (v :: vs) (1 + w) (1 + z) := ⟨1, w, 1, z, DatK.leaf h, r, rfl, rfl⟩
theorem leaf0 {n : Nat} : SumD (DatK K H (n + 1)) [] 0 0 := ⟨rfl, rfl⟩
theorem DatK.tup {n : Nat} {a : Addr} {xs : List V} {w z : Nat} (e : H a = some (.tup xs)) (s : SumD (DatK K H n) xs w z) : DatK K H (n + 1) (.ref a) w (z + 1) := .inr ⟨a, xs, z, rfl, SqT.of e, s, rfl⟩
theorem kt_dat {c : Addr} (h : KtAt H c) : ∃ x z, DatK K H 4 (.ref c) x z ∧ x ≤ 40 ∧ z ≤ 10000 := by
  rcases h with ⟨l, ⟨xs, e, p⟩, hl⟩ | ⟨m, c2, l, e, ⟨xs, e2, p⟩, hl⟩
  · obtain ⟨x, z, h1, h2, h3⟩ := sumB (K := K) (H := H) (n := 3) (c := 3) (e := 4) (fun v a r => by
      obtain ⟨t, rfl, q⟩ := r
      exact ⟨_, _, DatK.tup (n := 2) q (leaf1 rfl (leaf1 rfl (leaf1 rfl leaf0))), by decide, by decide⟩) p
    exact ⟨_, _, DatK.tup e h1, by omega, by omega⟩
  · obtain ⟨x, z, h1, h2, h3⟩ := sumB (K := K) (H := H) (n := 2) (c := 4) (e := 5) (fun v a r => by
      obtain ⟨t, rfl, q⟩ := r
      exact ⟨_, _, DatK.tup (n := 1) q (leaf1 rfl (leaf1 rfl (leaf1 rfl (leaf1 rfl leaf0)))), by decide, by decide⟩) p
    exact ⟨_, _, DatK.tup e (leaf1 rfl ⟨_, 0, _, 0, DatK.tup e2 h1, ⟨rfl, rfl⟩, rfl, rfl⟩), by omega, by omega⟩
theorem dd_dat {v : V} {d : Dd} (h : DdAt H v d) : ∃ x z, DatK K H 2 v x z ∧ x ≤ 4 ∧ z ≤ 5 := by
  obtain ⟨a, rfl, e⟩ := h
  cases d with
  | put k w l => exact ⟨_, _, DatK.tup (n := 1) e (leaf1 (show leafV (V.str "put") = true from by decide +kernel) (leaf1 rfl (leaf1 rfl (leaf1 rfl leaf0)))), by decide, by decide⟩
  | drop k => exact ⟨_, _, DatK.tup (n := 1) e (leaf1 (show leafV (V.str "drop") = true from by decide +kernel) (leaf1 rfl leaf0)), by decide, by decide⟩
  | add k m => exact ⟨_, _, DatK.tup (n := 1) e (leaf1 (show leafV (V.str "add") = true from by decide +kernel) (leaf1 rfl (leaf1 rfl leaf0))), by decide, by decide⟩
  | iff k w =>
    cases w with
    | none => exact ⟨_, _, DatK.tup (n := 1) e (leaf1 (show leafV (V.str "if") = true from by decide +kernel) (leaf1 rfl (leaf1 rfl leaf0))), by decide, by decide⟩
    | some w => exact ⟨_, _, DatK.tup (n := 1) e (leaf1 (show leafV (V.str "if") = true from by decide +kernel) (leaf1 rfl (leaf1 rfl leaf0))), by decide, by decide⟩
theorem ev_dat {v : V} {e : Ev} (h : EvAt H v e) (ok : e.ok) : ∃ x z, DatK K H 4 v x z ∧ x ≤ 20 ∧ z ≤ 1000 := by
  cases e with
  | tick m =>
    obtain ⟨u, rfl, q⟩ := h
    exact ⟨_, _, DatK.tup (n := 3) q (leaf1 (show leafV (V.str "tick") = true from by decide +kernel) (leaf1 rfl leaf0)), by decide, by decide⟩
  | deal hd x ds =>
    obtain ⟨u, dv, rfl, q, a, xs, rfl, e, p, _⟩ := h
    obtain ⟨x, z, h1, h2, h3⟩ := sumB (K := K) (H := H) (n := 2) (c := 4) (e := 5) (fun v a r => dd_dat r) p
    have := ok.2.2
    exact ⟨_, _, DatK.tup (n := 3) q (leaf1 (show leafV (V.str "deal") = true from by decide +kernel) (leaf1 rfl (leaf1 rfl ⟨_, 0, _, 0, DatK.tup (n := 2) e h1, ⟨rfl, rfl⟩, rfl, rfl⟩))), by omega, by omega⟩
end
/-- an entry with its number -/
def EnV (H : Hp) (v : V) : Prop := ∃ u at_ x e, v = .ref u ∧ H u = some (.tup [.int at_, x]) ∧ 0 ≤ at_ ∧ EvAt H x e ∧ e.ok
theorem EnV.kt {F : Addr → Prop} {H G : Hp} (k : Kt F H G) {v : V} (h : EnV H v) : EnV G v := let ⟨u, a, x, e, q, r, h0, z, o⟩ := h; ⟨u, a, x, e, q, k.tup r, h0, z.kt k, o⟩
section
variable {P : Program} {w : World} {K : PySem.W.Frag} {mg : Str → Option Value} {base : Heap} {A : Ad}
/-! ### check_held -/
theorem scCh : FnScope ["self"] ["self"] (defScope s_Store_check_held) := ⟨rfl, rfl, rfl, by decide +kernel, rfl, by decide +kernel, by decide +kernel⟩
def spHeld (A : Ad) (K : PySem.W.Frag) : Sp := fun vs H Q _ => ∃ (s d ls lu r : Addr) (m : M) (num : Int), vs = [.ref s] ∧ StAt A H s d ls lu r m ∧ RtAt K H r num ∧ m.sure[0]? = some (.ref r) ∧ ∀ G, Kp No H G → Q .non G
theorem ok_check_held (T : Txt K mg A) : ∃ fd, FnOk P w K mg base CX0 4 (A.m 52 3) fd ["self"] (spHeld A K) ∧ Binds K fd ["self"] [] := by
  obtain ⟨fd, F⟩ := T.m_Store_check_held.fn
  obtain ⟨fd3, G_Disk_read, b_Disk_read⟩ := ok_dk3 (P := P) (w := w) (base := base) (dTx T)
  refine ⟨fd, F.ok scCh (fun vs H Q E h => ?_) (fun cdv Ar outer s H vs Q E hr h => ?_), F.binds fun _ _ _ _ _ _ us hl => match us, hl with | [_], _ => rfl⟩
  · obtain ⟨s, d, ls, lu, r, m, num, rfl, _⟩ := h
    rfl
  · obtain ⟨s, d, ls, lu, r, m, num, rfl, S, R, h0, k⟩ := h
    refine ⟨_, (pss_one (ps_if (PW.pt (pw_or (pt_cmpR op_ne (pe_fld (pe_fld (pv 0) rfl) rfl) (pe_fld (pv 0) rfl) (nomark _)) (pw_or1 (pt_cmpR (op_neD hr.units) (pe_meth (E := fun _ _ _ => False) (pe_fld (pv 0) rfl) T.cl_Disk T.m_Disk_read.me G_Disk_read (hr.mono (by first | decide | omega)) b_Disk_read .nil (L2N.passes_call takesN0 fun _ _ _ _ h => h) (pa_cons (pe_glob (v := .int 0) rfl T.k_ROOT.choose_spec ⟨_, rfl⟩) pa_nil)) (pe_fld (pv 0) rfl) (nomark _)))))
        (pss_one ps_never)
        pss_nil)), ?_⟩
    obtain ⟨dx, es⟩ := S.at_
    obtain ⟨ddx, tp, st, ed, _, rfl⟩ := S.dk.ex
    refine ⟨_, rfl, s, A.c 52, dx, _, _, rfl, es, T.cl_Store, T.n_Store_disk, l_sdisk .., d, A.c 61, ddx, _, _, rfl, ed, T.cl_Disk, T.n_Disk_stops, K5.l_stops .., _, rfl, s, A.c 52, dx, _, _, rfl, es, T.cl_Store, T.n_Store_stops, l_sstops .., rfl, _, rfl, ite2 (fun z => absurd z (by simp)) (fun _ => ?_)⟩
    refine ⟨_, rfl, s, A.c 52, dx, _, _, rfl, es, T.cl_Store, T.n_Store_disk, l_sdisk .., d, ddx, _, rfl, ed, rfl, ?_⟩
    unfold tCons tC tNil
    show spDk3 (dAd A) [.ref d, .int 0] H _ _
    refine dk_read (n := 0) S.dk S.gd (by decide) (by decide) S.run S.pend fun G kG => ?_
    obtain ⟨dt, hd, h1, h2⟩ := (R.kt kG.t).dp
    have e0 : m.sure.getD (0 : Int).toNat .non = .ref r := by
      rw [List.getD_eq_getElem?_getD, show (0 : Int).toNat = 0 from rfl, h0]
      rfl
    rw [e0]
    refine ⟨_, rfl, s, A.c 52, dx, _, _, rfl, kG.t.ins es (fun z => z), T.cl_Store, T.n_Store_root, l_sroot .., dt, dt, hd, hd, h1, h1, _, rfl, ?_⟩
    rw [h2]
    exact iteF (k G kG)
end
end S02

set_option Elab.async false
set_option linter.all false
set_option maxRecDepth 100000
set_option maxHeartbeats 4000000
namespace S02
open PySem PySem.Spec PyProof.Rows L2 K5 SupX GenX
def PlAt (H : Hp) (D : Addr) : Prop := ∃ pl : List Int, H D = some (.lst (pl.map V.int)) ∧ pl.length = 9 ∧ ∀ i ∈ pl, i = 0 ∨ i = 1
theorem PlAt.kt {F : Addr → Prop} {H G : Hp} (k : Kt F H G) {D : Addr} (h : PlAt H D) (n : ¬ F D) : PlAt G D := let ⟨pl, e, q⟩ := h; ⟨pl, k.lst e n, q⟩
/-- the disk amid writes -/
structure DwAt (A : Ad) (H : Hp) (d ls lu : Addr) (m m1 : M) (n : Nat) (e : Int) : Prop where
  dk : DiskAt (dAd A) H d ls lu m1
  gd : Good m1
  few : m1.pend.length ≤ n
  en : Enough m1 e
  st : m1.stops = m.stops
theorem DwAt.kt {A : Ad} {F : Addr → Prop} {H G : Hp} {d ls lu : Addr} {m m1 : M} {n : Nat} {e : Int} (k : Kt F H G) (W : DwAt A H d ls lu m m1 n e) (nf : ∀ b, F b → ¬ dF d ls lu b) : DwAt A G d ls lu m m1 n e := ⟨W.dk.kt k nf, W.gd, W.few, W.en, W.st⟩
theorem DwAt.write {A : Ad} {K : PySem.W.Frag} {H : Hp} {d ls lu : Addr} {m m1 : M} {n : Nat} {e b : Int} {v : V} {dd x z : Nat} {Q : VK} (W : DwAt A H d ls lu m m1 n e) (h1 : 1 ≤ e) (hn : n < 1000) (hd : DatK K H dd v x z) (hz : z ≤ 10000) (f : Fits b x)
    (k : ∀ G m2, Kp (dF d ls lu) H G → DwAt A G d ls lu m m2 (n + 1) (e - 1) → Q .non G) : spDk1 (dAd A) K [.ref d, .int b, v] H Q (fun _ _ _ => False) := by
  obtain ⟨c, en⟩ := W.en.one h1
  obtain ⟨e1, e2, e3, _, _⟩ := count_true c
  have g := W.gd.count c
  have := W.few
  refine dk_write W.dk W.gd (by omega) hd hz f c fun G kG DG => k G _ kG ⟨DG, ⟨g.len, fun q hq => ?_, ?_, fun z => ?_, g.nat⟩, ?_, en, (count_stops c).trans W.st⟩
  · rcases List.mem_append.mp hq with z | z
    · exact g.blk q z
    · rw [List.mem_singleton.mp z]
      exact ⟨f.1, f.2.1⟩
  · show (m1.count.2.pend ++ _).length ≤ 1000
    rw [e2, List.length_append, List.length_singleton]
    omega
  · have z : m1.count.2.run = false := z
    rw [e3] at z
    cases z
  · show (m1.count.2.pend ++ _).length ≤ n + 1
    rw [e2, List.length_append, List.length_singleton]
    omega
section
variable {P : Program} {w : World} {K : PySem.W.Frag} {mg : Str → Option Value} {base : Heap} {A : Ad} {tp : Nat → Addr}
theorem scEb : FnScope ["number"] ["number"] (defScope s_entry_block) := ⟨rfl, rfl, rfl, by decide +kernel, rfl, by decide +kernel, by decide +kernel⟩
def spEb : Sp := fun vs H Q _ => ∃ n : Int, vs = [.int n] ∧ ∀ b : Int, 1 ≤ b → b ≤ 16 → Q (.int b) H
theorem ok_entry_block (T : Txt K mg A) : ∃ fd, FnOk P w K mg base CX0 1 (A.d 50) fd ["number"] spEb ∧ Binds K fd ["number"] [] := by
  obtain ⟨fd, F⟩ := T.entry_block.fn
  refine ⟨fd, F.ok scEb (fun vs H Q E h => ?_) (fun cdv Ar outer s H vs Q E hr h => ?_), F.binds fun _ _ _ _ _ _ us hl => match us, hl with | [_], _ => rfl⟩
  · obtain ⟨n, rfl, _⟩ := h
    rfl
  · obtain ⟨n, rfl, k⟩ := h
    refine ⟨_, (pss_one (ps_ret (pe_op op_add (pe_glob (v := .int 1) rfl T.k_FIRST_ENTRY.choose_spec ⟨_, rfl⟩) (pe_op op_mod (pv 0) (pe_glob (v := .int 16) rfl T.k_MOST_ENTRIES.choose_spec ⟨_, rfl⟩))))), ?_⟩
    refine ⟨_, rfl, _, _, rfl, rfl, (by decide : (0 : Int) < 16), _, _, rfl, rfl, k _ ?_ ?_⟩
    · have := Int.emod_nonneg n (show (16 : Int) ≠ 0 by decide)
      omega
    · have := Int.emod_lt_of_pos n (show (0 : Int) < 16 by decide)
      omega
theorem scPb : FnScope ["page", "place"] ["page", "place"] (defScope s_page_block) := ⟨rfl, rfl, rfl, by decide +kernel, rfl, by decide +kernel, by decide +kernel⟩
def spPb : Sp := fun vs H Q _ => ∃ p l : Int, vs = [.int p, .int l] ∧ Q (.int (17 + 2 * p + l)) H
theorem ok_page_block (T : Txt K mg A) : ∃ fd, FnOk P w K mg base CX0 1 (A.d 51) fd ["page", "place"] spPb ∧ Binds K fd ["page", "place"] [] := by
  obtain ⟨fd, F⟩ := T.page_block.fn
  refine ⟨fd, F.ok scPb (fun vs H Q E h => ?_) (fun cdv Ar outer s H vs Q E hr h => ?_), F.binds fun _ _ _ _ _ _ us hl => match us, hl with | [_, _], _ => rfl⟩
  · obtain ⟨p, l, rfl, _⟩ := h
    rfl
  · obtain ⟨p, l, rfl, k⟩ := h
    refine ⟨_, (pss_one (ps_ret (pe_op op_add (pe_op op_add (pe_glob (v := .int 17) rfl T.k_FIRST_PAGE.choose_spec ⟨_, rfl⟩) (pe_op op_mul pe_int (pv 0))) (pv 1)))), ?_⟩
    exact ⟨_, rfl, _, _, rfl, rfl, .inl ⟨by decide, by decide⟩, _, _, rfl, rfl, _, rfl, _, _, rfl, rfl, k⟩
/-! ### put -/
theorem scPut : FnScope ["self", "number", "pages", "entries", "places", "page", "content", "at", "entry"] ["self", "number", "pages", "entries"] (defScope s_Store_put) := ⟨rfl, rfl, rfl, by decide +kernel, rfl, by decide +kernel, by decide +kernel⟩
def spPut (A : Ad) (K : PySem.W.Frag) : Sp := fun vs H Q _ => ∃ (s d ls lu r : Addr) (m : M) (num num' e : Int) (lp le : Addr) (ps es : List V), vs = [.ref s, .int num', .ref lp, .ref le] ∧ StAt A H s d ls lu r m ∧ RtAt K H r num ∧ m.sure[0]? = some (.ref r) ∧
  H lp = some (.lst ps) ∧ (∀ v ∈ ps, PcV H v) ∧ ps.length ≤ 9 ∧ H le = some (.lst es) ∧ (∀ v ∈ es, EnV H v) ∧ es.length ≤ 4 ∧ Enough m (e + 16) ∧ 0 ≤ e ∧ lp ≠ ls ∧ lp ≠ lu ∧ le ≠ ls ∧ le ≠ lu ∧ ∀ r', WrQ A s d ls lu r' H m e fun G => RtAt K G r' num' → Q .non G
theorem ok_put (T : Txt K mg A) : ∃ fd, FnOk P w K mg base CX0 5 (A.m 52 2) fd ["self", "number", "pages", "entries"] (spPut A K) ∧ Binds K fd ["self", "number", "pages", "entries"] [] := by
  obtain ⟨fd, F⟩ := T.m_Store_put.fn
  obtain ⟨fd1, G_Disk_write, b_Disk_write⟩ := ok_dk1 (P := P) (w := w) (base := base) (dTx T)
  obtain ⟨fd2, G_Disk_settle, b_Disk_settle⟩ := ok_dk2 (P := P) (w := w) (base := base) (dTx T)
  obtain ⟨fd3, G_Store_check_held, b_Store_check_held⟩ := ok_check_held (P := P) (w := w) (base := base) T
  obtain ⟨fd4, G_Store_write_root, b_Store_write_root⟩ := ok_write_root (P := P) (w := w) (base := base) T
  obtain ⟨fd5, Gentry_block, bentry_block⟩ := ok_entry_block (P := P) (w := w) (base := base) T
  obtain ⟨fd6, Gpage_block, bpage_block⟩ := ok_page_block (P := P) (w := w) (base := base) T
  refine ⟨fd, F.ok scPut (fun vs H Q E h => ?_) (fun cdv Ar outer s H vs Q E hr h => ?_), F.binds fun _ _ _ _ _ _ us hl => match us, hl with | [_, _, _, _], _ => rfl⟩
  · obtain ⟨s, d, ls, lu, r, m, num, num', e, lp, le, ps, es, rfl, _⟩ := h
    rfl
  · obtain ⟨s, d, ls, lu, r, m, num, num', e, lp, le, ps, es, rfl, S, R, h0, hlp, hps, lps, hle, hes, les, en, he, d1, d2, d3, d4, k⟩ := h
    refine ⟨_, (pss_cons (ps_expr (pe_meth0 (pv 0) T.cl_Store T.m_Store_check_held.me G_Store_check_held (hr.mono (by first | decide | omega)) b_Store_check_held .nil pass0))
      (pss_cons (ps_set (i := 4) scPut.nd rfl (Or.inl rfl) (pe_callTy call_list_of (by rfl) T.list (by decide +kernel) (pa_cons (pe_ix ix_tup (pe_fld (pv 0) rfl) pe_int (fun _ _ => rfl)) pa_nil)))
      (C8.pss_cut (ps_for PassesOwn.never rfl (pi_list (pv 2)) (pg_tup rfl (pgs_cons (pg_name (i := 5) scPut.nd rfl (Or.inl rfl)) (pgs_cons (pg_name (i := 6) scPut.nd rfl (Or.inl rfl)) pgs_nil)))
        (pss_cons (ps_asg (pe_op op_sub pe_int (pe_ix ix_list (pv 4) (pv 5) (fun _ _ => rfl))) (pg_sub (pv 4) (pv 5) set_list))
        (pss_one (ps_expr (pe_meth (E := fun _ _ _ => False) (pe_fld (pv 0) rfl) T.cl_Disk T.m_Disk_write.me G_Disk_write (hr.mono (by first | decide | omega)) b_Disk_write .nil (L2N.passes_call takesN0 fun _ _ _ _ h => h) (pa_cons (pe_call Gpage_block (hr.mono (by first | decide | omega)) rfl T.page_block.at_ T.page_block.kp bpage_block .nil pass0 (pa_cons (pv 5) (pa_cons (pe_ix ix_list (pv 4) (pv 5) (fun _ _ => rfl)) pa_nil))) (pa_cons (pv 6) pa_nil)))))))
      (C8.pss_cut (ps_for PassesOwn.never rfl (pi_list (pv 3)) (pg_tup rfl (pgs_cons (pg_name (i := 7) scPut.nd rfl (Or.inl rfl)) (pgs_cons (pg_name (i := 8) scPut.nd rfl (Or.inl rfl)) pgs_nil)))
        (pss_one (ps_expr (pe_meth (E := fun _ _ _ => False) (pe_fld (pv 0) rfl) T.cl_Disk T.m_Disk_write.me G_Disk_write (hr.mono (by first | decide | omega)) b_Disk_write .nil (L2N.passes_call takesN0 fun _ _ _ _ h => h) (pa_cons (pe_call Gentry_block (hr.mono (by first | decide | omega)) rfl T.entry_block.at_ T.entry_block.kp bentry_block .nil pass0 (pa_cons (pv 7) pa_nil)) (pa_cons (pe_tup (pa_cons (pv 7) (pa_cons (pv 8) pa_nil))) pa_nil))))))
      (pss_cons (ps_expr (pe_meth0 (E := fun _ _ _ => False) (pe_fld (pv 0) rfl) T.cl_Disk T.m_Disk_settle.me G_Disk_settle (hr.mono (by first | decide | omega)) b_Disk_settle .nil (L2N.passes_call takesN0 fun _ _ _ _ h => h)))
      (pss_one (ps_expr (pe_meth (pv 0) T.cl_Store T.m_Store_write_root.me G_Store_write_root (hr.mono (by first | decide | omega)) b_Store_write_root .nil pass0 (pa_cons (pe_tup (pa_cons (pe_ix ix_tup (pe_fld (pv 0) rfl) pe_int (fun _ _ => rfl)) (pa_cons (pv 1) (pa_cons (pe_callTy call_tuple_of (by rfl) T.tuple (by decide +kernel) (pa_cons (pv 4) pa_nil)) pa_nil)))) pa_nil))))))))), ?_⟩
    obtain ⟨dx, es_⟩ := S.at_
    obtain ⟨run, p, pl, r1, r2, r3, r4⟩ := R.ex
    -- self.check_held()
    refine ⟨_, rfl, s, dx, _, rfl, es_, rfl, s, d, ls, lu, r, m, num, rfl, S, R, h0, fun G0 k0 => ?_⟩
    have S0 := S.kt k0.t fun _ z => False.elim z
    have es0 := k0.t.ins es_ fun z => z
    -- places = list(self.root[2])
    refine ⟨_, rfl, s, A.c 52, dx, _, _, rfl, es0, T.cl_Store, T.n_Store_root, l_sroot .., r, _, 2, .ref p, rfl, rfl, SqT.kt k0.t r1, rfl, p, pl.map V.int, rfl, .inr (SqT.kt k0.t r2), fun D nD => ?_⟩
    have kD : Kp No G0 (upd G0 D (.lst (pl.map V.int))) := Kp.new nD
    have eD : upd G0 D (.lst (pl.map V.int)) D = some (.lst (pl.map V.int)) := upd_same
    generalize upd G0 D (.lst (pl.map V.int)) = G1 at kD eD ⊢
    have k1 : Kp No H G1 := k0.trans kD fun _ z => False.elim z
    have S1 := S.kt k1.t fun _ z => False.elim z
    have nDH : H D = none := k0.free nD fun z => False.elim z
    have nDd : ¬ dF d ls lu D := by
      obtain ⟨ddx, tp, st, ed, _⟩ := S.dk.ex
      obtain ⟨rs, h3, _⟩ := S.dk.uns
      rintro (z | z | z)
      · rw [z, ed] at nDH; cases nDH
      · rw [z, S.dk.sure] at nDH; cases nDH
      · rw [z, h3] at nDH; cases nDH
    have nlp : ¬ (lp = D ∨ dF d ls lu lp) := by
      obtain ⟨ddx, tp, st, ed, _⟩ := S.dk.ex
      rintro (z | z | z | z)
      · rw [← z, hlp] at nDH; cases nDH
      · rw [z, ed] at hlp; cases hlp
      · exact d1 z
      · exact d2 z
    have nle : ¬ (le = D ∨ dF d ls lu le) := by
      obtain ⟨ddx, tp, st, ed, _⟩ := S.dk.ex
      rintro (z | z | z | z)
      · rw [← z, hle] at nDH; cases nDH
      · rw [z, ed] at hle; cases hle
      · exact d3 z
      · exact d4 z
    have nDs : s ≠ D := fun z => by rw [← z, es_] at nDH; cases nDH
    -- the pages
    refine ⟨fun σ J => ∃ o1 o2 m1, σ = [some (.ref s), some (.int num'), some (.ref lp), some (.ref le), some (.ref D), o1, o2, none, none] ∧ Kp (fun b => b = D ∨ dF d ls lu b) G1 J ∧ PlAt J D ∧ DwAt A J d ls lu m m1 9 (e + 7), ?_, ?_⟩
    · refine ⟨_, rfl, lp, rfl, ⟨_, SqL.of (k1.t.lst hlp fun z => z)⟩, for_list (K := K) (a := lp) (xs := ps) (fun i σ J => ∃ o1 o2 m1, σ = [some (.ref s), some (.int num'), some (.ref lp), some (.ref le), some (.ref D), o1, o2, none, none] ∧ Kp (fun b => b = D ∨ dF d ls lu b) G1 J ∧ PlAt J D ∧ DwAt A J d ls lu m m1 i (e + 16 - i))
        ⟨none, none, m, rfl, Kp.refl _ _, ⟨pl, eD, r3, r4⟩, S1.dk, S1.gd, by rw [S1.pend]; exact Nat.le_refl _, by rw [Int.ofNat_zero, Int.sub_zero]; exact en, rfl⟩ (fun i σ J _ ⟨_, _, _, _, kJ, _⟩ => SqL.of (kJ.t.lst (k1.t.lst hlp fun z => z) nlp)) ?_ ?_⟩
      · rintro i x σ J hx ⟨o1, o2, m1, rfl, kJ, ⟨pl', eD', l9, z1⟩, W⟩
        obtain ⟨u, pg, c, rfl, hu, p0, p8, hc⟩ := hps x (List.mem_of_getElem? hx)
        have hi : i < ps.length := (List.getElem?_eq_some_iff.mp hx).1
        have kHJ : Kp (fun b => b = D ∨ dF d ls lu b) H J := (k1.sub fun _ z => False.elim z).trans kJ fun b z => .inl z
        have hlt : pg.toNat < pl'.length := by rw [l9]; omega
        have eix : (pl'.map V.int)[pg.toNat]? = some (.int (pl'[pg.toNat])) := by rw [List.getElem?_map, List.getElem?_eq_getElem hlt]; rfl
        have hl2 : (pl'.map V.int).length = 9 := by rw [List.length_map]; exact l9
        have eat : atI (pl'.map V.int) pg = some (.int (pl'[pg.toNat])) := by unfold atI; rw [ixN_in p0 (by rw [hl2]; omega)]; exact eix
        refine ⟨u, _, rfl, SqT.of (kHJ.t.tup hu), rfl, _, _, rfl, _, _, rfl, rfl, ?_⟩
        -- places[page] = 1 - places[page]
        refine ⟨_, rfl, _, rfl, D, pl'.map V.int, pg, .int (pl'[pg.toNat]), rfl, rfl, SqL.of eD', eat, _, _, rfl, rfl, _, rfl, _, rfl, D, _, pg, pg.toNat, rfl, rfl, eD', ixN_in p0 (by rw [hl2]; omega), ?_⟩
        have kS : Kp (fun b => b = D) J (upd J D (.lst ((pl'.map V.int).set pg.toNat (.int (1 - pl'[pg.toNat]))))) := Kp.updL eD' rfl
        have eS : upd J D (.lst ((pl'.map V.int).set pg.toNat (.int (1 - pl'[pg.toNat])))) D = some (.lst ((pl'.set pg.toNat (1 - pl'[pg.toNat])).map V.int)) := by rw [upd_same, List.map_set]
        have hz1 : 1 - pl'[pg.toNat] = 0 ∨ 1 - pl'[pg.toNat] = 1 := by
          rcases z1 _ (List.getElem_mem hlt) with z | z <;> rw [z] <;> decide
        have zz : ∀ i ∈ pl'.set pg.toNat (1 - pl'[pg.toNat]), i = 0 ∨ i = 1 := fun i hi => by
          rcases List.mem_or_eq_of_mem_set hi with y | y
          · exact z1 i y
          · rw [y]; exact hz1
        have lS : (pl'.set pg.toNat (1 - pl'[pg.toNat])).length = 9 := by rw [List.length_set]; exact l9
        have eat2 : atI ((pl'.set pg.toNat (1 - pl'[pg.toNat])).map V.int) pg = some (.int (1 - pl'[pg.toNat])) := by
          unfold atI
          rw [ixN_in p0 (by rw [List.length_map, lS]; omega), Option.bind_some, List.getElem?_map, List.getElem?_set_self hlt]
          rfl
        generalize upd J D (.lst ((pl'.map V.int).set pg.toNat (.int (1 - pl'[pg.toNat])))) = J1 at kS eS ⊢
        generalize 1 - pl'[pg.toNat] = q at *
        have W1 := W.kt kS.t fun b z y => nDd (by rw [← show b = D from z]; exact y)
        have esJ : J1 s = _ := kS.t.ins (kJ.t.ins (kD.t.ins es0 fun z => z) fun z => z.elim nDs S.nes) nDs
        obtain ⟨ddx, tp, st, ed, _⟩ := W1.dk.ex
        have kH1 : Kp (fun b => b = D ∨ dF d ls lu b) H J1 := kHJ.trans kS fun b z => .inl (.inl z)
        obtain ⟨wx, wz, hd, hw, hz⟩ := kt_dat (K := K) (hc.kt kH1.t)
        -- self.disk.write(page_block(page, places[page]), content)
        refine ⟨_, rfl, s, A.c 52, dx, _, _, rfl, esJ, T.cl_Store, T.n_Store_disk, l_sdisk .., d, ddx, _, rfl, ed, rfl, _, rfl, _, rfl, _, rfl, D, _, pg, .int q, rfl, rfl, SqL.of eS, eat2, pg, q, rfl, _, rfl, ?_⟩
        unfold tNil
        show spDk1 (dAd A) K [.ref d, .int (17 + 2 * pg + q), .ref c] J1 _ _
        refine W1.write (by omega) (by omega) hd hz ⟨by omega, by omega, hw⟩ fun G m2 kG WG => ?_
        refine ⟨_, _, m2, rfl, (kJ.trans kS fun b z => .inl (.inl z)).trans (kG.sub (F' := fun b => b = D ∨ dF d ls lu b) fun b z => .inr z) fun b z => .inl z, ⟨_, kG.t.lst eS nDd, lS, zz⟩, WG.dk, WG.gd, WG.few, WG.en.le (by omega), WG.st⟩
      · rintro σ J ⟨o1, o2, m1, rfl, kJ, PJ, W⟩
        exact ⟨o1, o2, m1, rfl, kJ, PJ, W.dk, W.gd, Nat.le_trans W.few lps, W.en.le (by omega), W.st⟩
    · rintro σ J ⟨o1, o2, m1, rfl, kJ, PJ, W⟩
      -- the entries
      refine ⟨fun σ I => ∃ o3 o4 m2, σ = [some (.ref s), some (.int num'), some (.ref lp), some (.ref le), some (.ref D), o1, o2, o3, o4] ∧ Kp (fun b => b = D ∨ dF d ls lu b) G1 I ∧ PlAt I D ∧ DwAt A I d ls lu m m2 13 (e + 3), ?_, ?_⟩
      · refine ⟨_, rfl, le, rfl, ⟨_, SqL.of (kJ.t.lst (k1.t.lst hle fun z => z) nle)⟩, for_list (K := K) (a := le) (xs := es) (fun i σ I => ∃ o3 o4 m2, σ = [some (.ref s), some (.int num'), some (.ref lp), some (.ref le), some (.ref D), o1, o2, o3, o4] ∧ Kp (fun b => b = D ∨ dF d ls lu b) G1 I ∧ PlAt I D ∧ DwAt A I d ls lu m m2 (9 + i) (e + 7 - i))
          ⟨none, none, m1, rfl, kJ, PJ, by rw [Int.ofNat_zero, Int.sub_zero]; exact W⟩ (fun i σ I _ ⟨_, _, _, _, kI, _⟩ => SqL.of (kI.t.lst (k1.t.lst hle fun z => z) nle)) ?_ ?_⟩
        · rintro i x σ I hx ⟨o3, o4, m2, rfl, kI, PI, WI⟩
          obtain ⟨u, at_, y, ev, rfl, hu, a0, hev, hok⟩ := hes x (List.mem_of_getElem? hx)
          have hi : i < es.length := (List.getElem?_eq_some_iff.mp hx).1
          have kHI : Kp (fun b => b = D ∨ dF d ls lu b) H I := (k1.sub fun _ z => False.elim z).trans kI fun b z => .inl z
          have esI : I s = _ := kI.t.ins (kD.t.ins es0 fun z => z) fun z => z.elim nDs S.nes
          obtain ⟨ddx, tp, st, ed, _⟩ := WI.dk.ex
          refine ⟨u, _, rfl, SqT.of (kHI.t.tup hu), rfl, _, _, rfl, _, _, rfl, rfl, ?_⟩
          refine ⟨_, rfl, s, A.c 52, dx, _, _, rfl, esI, T.cl_Store, T.n_Store_disk, l_sdisk .., d, ddx, _, rfl, ed, rfl, _, rfl, at_, rfl, fun bk b1 b16 => ⟨_, rfl, _, rfl, sz 2 (by decide), fun q nq => ?_⟩⟩
          have kq : Kp No I (upd I q (.tup [.int at_, y])) := Kp.new nq
          obtain ⟨wx, wz, hd, hw, hz⟩ := ev_dat (K := K) ((hev.kt kHI.t).kt kq.t) hok
          have hd2 : DatK K (upd I q (.tup [.int at_, y])) 5 (.ref q) (1 + wx) (1 + wz + 1) := DatK.tup (n := 4) upd_same ⟨1, wx, 1, wz, DatK.leaf rfl, ⟨wx, 0, wz, 0, hd, ⟨rfl, rfl⟩, rfl, rfl⟩, rfl, rfl⟩
          generalize upd I q (.tup [.int at_, y]) = I1 at kq hd2 ⊢
          unfold tNil
          show spDk1 (dAd A) K [.ref d, .int bk, .ref q] I1 _ _
          refine (WI.kt kq.t fun _ z => False.elim z).write (by omega) (by omega) hd2 (by omega) ⟨by omega, by omega, by omega⟩ fun G m3 kG WG => ?_
          refine ⟨_, _, m3, rfl, (kI.trans (kq.sub fun _ z => False.elim z) fun b z => .inl z).trans (kG.sub (F' := fun b => b = D ∨ dF d ls lu b) fun b z => .inr z) fun b z => .inl z, (PI.kt kq.t fun z => z).kt kG.t nDd, WG.dk, WG.gd, WG.few, WG.en.le (by omega), WG.st⟩
        · rintro σ I ⟨o3, o4, m2, rfl, kI, PI, WI⟩
          exact ⟨o3, o4, m2, rfl, kI, PI, WI.dk, WI.gd, Nat.le_trans WI.few (by omega), WI.en.le (by omega), WI.st⟩
      · rintro σ I ⟨o3, o4, m2, rfl, kI, PI, WI⟩
        -- self.disk.settle()
        have esI : I s = _ := kI.t.ins (kD.t.ins es0 fun z => z) fun z => z.elim nDs S.nes
        obtain ⟨ddx, tp, st, ed, _⟩ := WI.dk.ex
        obtain ⟨c2, en2⟩ := WI.en.one (by omega)
        obtain ⟨g1, g2, g3, _, _⟩ := count_true c2
        refine ⟨_, rfl, s, A.c 52, dx, _, _, rfl, esI, T.cl_Store, T.n_Store_disk, l_sdisk .., d, ddx, _, rfl, ed, rfl, ?_⟩
        unfold tNil
        show spDk2 (dAd A) [.ref d] I _ _
        refine dk_settle WI.dk WI.gd c2 fun G lu1 hl kG DG => ?_
        have g := WI.gd.count c2
        have Gm2 : Good m2.count.2.settle := ⟨by show (K5.putAll _ _).length = 35; rw [putAll_len]; exact g.len, (fun q hq => nomatch hq), Nat.zero_le _, fun _ => rfl, g.nat⟩
        have kHG : Kp (fun b => b = D ∨ dF d ls lu b) H G := ((k1.sub fun _ z => False.elim z).trans kI fun b z => .inl z).trans (kG.sub (F' := fun b => b = D ∨ dF d ls lu b) fun b z => .inr z) fun b z => .inl z
        have hfd : Kp (dF d ls lu) H G := by
          intro b o e n
          by_cases z : b = D
          · rw [z, nDH] at e; cases e
          · exact kHG b o e fun mu y => y.elim z (n mu)
        have esG : G s = _ := kG.t.ins esI S.nes
        have hst : m2.count.2.settle.stops = m.stops := (count_stops c2).trans WI.st
        -- self.write_root((self.root[0], number, tuple(places)))
        obtain ⟨pl2, eP, l2, z2⟩ := PI.kt kG.t nDd
        refine ⟨_, rfl, s, dx, _, rfl, esG, rfl, _, rfl, s, A.c 52, dx, _, _, rfl, esG, T.cl_Store, T.n_Store_root, l_sroot .., r, _, 0, .int run, rfl, rfl, SqT.kt kHG.t r1, rfl, _, rfl, _, rfl, D, _, rfl, .inl ⟨SqL.of eP, fun t nt => ⟨sz 3 (by decide), fun r' nr' => ?_⟩⟩⟩
        have ht : upd (upd G t (.tup (pl2.map V.int))) r' (.tup [.int run, .int num', .ref t]) t = some (.tup (pl2.map V.int)) := by rw [upd_ne (upd_none nr').1.symm, upd_same]
        have R2 : RtAt K (upd (upd G t (.tup (pl2.map V.int))) r' (.tup [.int run, .int num', .ref t])) r' num' := ⟨run, t, pl2, SqT.of upd_same, SqT.of ht, l2, z2⟩
        have kn : Kp No G (upd (upd G t (.tup (pl2.map V.int))) r' (.tup [.int run, .int num', .ref t])) := (Kp.new nt).andN nr'
        generalize upd (upd G t (.tup (pl2.map V.int))) r' (.tup [.int run, .int num', .ref t]) = G2 at kn R2 ⊢
        show spWr A K [.ref s, .ref r'] G2 _ _
        refine ⟨s, d, ls, lu1, r', _, _, e, 3, 11, 13, rfl, ⟨dx, by rw [hst]; exact kn.t.ins esG fun z => z⟩, DG.kt kn.t fun _ z => False.elim z, Gm2, rfl, en2.le (by omega), he, R2.dat, by decide, by decide, fun G3 lu2 m4 hl2 kG3 SG q1 q2 q3 => ?_⟩
        obtain ⟨ddx2, tp2, st2, ed2, _⟩ := DG.ex
        have hl1 : lu1 = lu ∨ H lu1 = none := hl.imp id fun z => by
          have kHI : Kp (fun b => b = D ∨ dF d ls lu b) H I := (k1.sub fun _ z => False.elim z).trans kI fun b z => .inl z
          refine kHI.free z fun y => ?_
          obtain ⟨pl3, e3, _⟩ := PI
          rcases y with y | y | y | y
          · rw [y, e3] at z; cases z
          · rw [y, ed] at z; cases z
          · rw [y, WI.dk.sure] at z; cases z
          · obtain ⟨rs, h3, _⟩ := WI.dk.uns
            rw [y, h3] at z; cases z
        have hG : ∀ b, G b = none → b = lu ∨ H b = none := fun b z => by
          by_cases y : b = lu
          · exact .inl y
          · refine .inr (hfd.free z fun y' => ?_)
            rcases y' with y' | y' | y'
            · rw [y', ed2] at z; cases z
            · rw [y', DG.sure] at z; cases z
            · exact absurd y' y
        refine k r' G3 lu2 m4 ?_ ?_ SG q1 (q2.trans hst) q3 (R2.kt kG3.t)
        · rcases hl2 with z | z
          · rw [z]; exact hl1
          · exact hG _ (kn.free z fun y => False.elim y)
        · refine ((hfd.sub (F' := sF s d ls lu) fun b z => .inr z).trans kn fun b z => False.elim z).trans kG3 fun b z => ?_
          rcases z with z | z | z | z
          · exact .inl (.inl z)
          · exact .inl (.inr (.inl z))
          · exact .inl (.inr (.inr (.inl z)))
          · rw [z]
            exact hl1.imp (fun z => .inr (.inr (.inr z))) id
end
end S02

set_option Elab.async false
set_option linter.all false
set_option maxRecDepth 100000
set_option maxHeartbeats 2000000
/-! [][::-1]: an empty list turned about -/
namespace SupX
open PySem PySem.Spec PyProof.Rows L2
def tRev0 (K : PySem.W.Frag) (te : TE) (tl th ts : TO) : TE := fun σ H Q => te σ H fun x H1 => tl σ H1 fun l H2 => th σ H2 fun u H3 => ts σ H3 fun t H4 => l = none ∧ u = none ∧ t = some (-1) ∧ ∃ a, x = .ref a ∧ SqL K H4 a [] ∧ ∀ p, H4 p = none → Q (.ref p) (upd H4 p (.lst []))
theorem pe_rev0 {X : Cx} {e c : Expr} {te : TE} {tl th ts : TO} {pos p2 : Pos} (he : PE X e te) (hl : PO X none tl) (hu : PO X none th) (hs : PO X (some c) ts) : PE X (.Subscript e (.Slice none none (some c) p2) pos) (tRev0 X.K te tl th ts) := by
  refine ⟨fun pins s σ H Q I h => ?_⟩
  refine Subscript_ (thn (he.run pins s σ H _ I h) fun v s1 ⟨x, H1, I1, r1, q1⟩ => ?_)
  refine wpAny_Slice (thn (hl.run pins s1 σ H1 _ I1 q1) fun vl s2 ⟨l, H2, I2, pl, q2⟩ => thn (hu.run pins s2 σ H2 _ I2 q2) fun vu s3 ⟨u, H3, I3, pu, q3⟩ => thn (hs.run pins s3 σ H3 _ I3 q3) fun vt s4 ⟨t, H4, I4, pt, q4⟩ => ?_)
  obtain ⟨rfl, rfl, rfl, a, rfl, hx, q⟩ := q4
  have I5 : Inv X pins σ H4 { s4 with heap := s4.heap.push { cls := .type "slice", data := .fields #[vl, vu, vt] } } := I4.kept (t' := s4.toks) fun b ob q => Heap.get?_push_of_some _ q
  cases r1
  obtain ⟨its, r, ht, hz⟩ := I5.list hx
  cases r
  show wpAny (model X.prog X.w) X.A (subscriptTail e (.Slice none none (some c) p2) (.ref a) (.ref s4.heap.objs.size)) (EP X pins σ Q) X.xe { s4 with heap := s4.heap.push { cls := .type "slice", data := .fields #[vl, vu, vt] } }
  refine tail_any (T := "list") (ops := [.ref a, .ref s4.heap.objs.size]) ht.isList.typeIs slot_list_getitem.lookup ?_ (by with_unfolding_all rfl)
  refine wpAny_getItem_list_slice ht.isList (Heap.IsSliceOf.new ..) pl pu pt (by decide) ?_ (by rw [List.size_toArray]; exact Nat.zero_le _)
  refine ⟨.ref _, _, I5.laid (t' := s4.toks) (o := .lst []) (fun b ob q => Heap.get?_push_of_some _ q) (Nat.le_refl _) ?_, rfl, q _ (I5.hok.fresh (Nat.le_refl _))⟩
  exact ⟨Nat.zero_le _, _, 0, .nil, Heap.get?_push_size _ rfl⟩
end SupX

set_option Elab.async false
set_option linter.all false
set_option maxRecDepth 100000
set_option maxHeartbeats 4000000
namespace S02
open PySem PySem.Spec PyProof.Rows L2 K5 SupX GenX
/-- the root that a new disk has -/
structure NewRoot (K : PySem.W.Frag) (mg : Str → Option Value) (nr pl : Addr) : Prop where
  at_ : mg "NEW_ROOT" = some (.ref nr)
  t1 : ∀ H, SqT K H nr [.int 0, .int 0, .ref pl]
  t2 : ∀ H, SqT K H pl ((List.replicate 9 (0 : Int)).map V.int)
theorem NewRoot.rt {K : PySem.W.Frag} {mg : Str → Option Value} {nr pl : Addr} (N : NewRoot K mg nr pl) (H : Hp) : RtAt K H nr 0 := ⟨0, pl, List.replicate 9 0, N.t1 H, N.t2 H, rfl, fun i hi => .inl (List.eq_of_mem_replicate hi)⟩
section
variable {P : Program} {w : World} {K : PySem.W.Frag} {mg : Str → Option Value} {base : Heap} {A : Ad} {tp : Nat → Addr} {nr pl : Addr}
/-! ### __init__ -/
theorem scSi : FnScope ["self", "disk"] ["self", "disk"] (defScope s_Store___init__) := ⟨rfl, rfl, rfl, by decide +kernel, rfl, by decide +kernel, by decide +kernel⟩
def spSInit (A : Ad) (nr : Addr) : Sp := fun vs H Q _ => ∃ (s dx d ls lu : Addr) (m : M), vs = [.ref s, .ref d] ∧ H s = some (.ins (A.c 52) dx []) ∧ DiskAt (dAd A) H d ls lu m ∧ Good m ∧ m.run = true ∧ m.pend = [] ∧ m.sure[0]? = some .non ∧ ∀ G, Kp (fun b => b = s) H G → StAt A G s d ls lu nr m → Q .non G
theorem ok_sinit (T : Txt K mg A) (N : NewRoot K mg nr pl) : ∃ fd, FnOk P w K mg base CX0 4 (A.m 52 0) fd ["self", "disk"] (spSInit A nr) ∧ Binds K fd ["self", "disk"] [] := by
  obtain ⟨fd, F⟩ := T.m_Store___init__.fn
  obtain ⟨fd3, G_Disk_read, b_Disk_read⟩ := ok_dk3 (P := P) (w := w) (base := base) (dTx T)
  refine ⟨fd, F.ok scSi (fun vs H Q E h => ?_) (fun cdv Ar outer s H vs Q E hr h => ?_), F.binds fun _ _ _ _ _ _ us hl => match us, hl with | [_, _], _ => rfl⟩
  · obtain ⟨s, dx, d, ls, lu, m, rfl, _⟩ := h
    rfl
  · obtain ⟨s, dx, d, ls, lu, m, rfl, es, D, Gm, hr1, hp, h0, k⟩ := h
    refine ⟨_, (pss_cons (ps_fld (pv 0) (pv 1) rfl)
      (pss_cons (ps_fld (pv 0) (pe_fld (pv 1) rfl) rfl)
      (pss_one (ps_fld (pv 0) (pe_orT (pe_meth (E := fun _ _ _ => False) (pv 1) T.cl_Disk T.m_Disk_read.me G_Disk_read (hr.mono (by decide)) b_Disk_read .nil (L2N.passes_call takesN0 fun _ _ _ _ h => h) (pa_cons (pe_glob (v := .int 0) rfl T.k_ROOT.choose_spec ⟨_, rfl⟩) pa_nil)) (pe_one (pe_glob (v := .ref nr) rfl N.at_ rfl))) rfl)))), ?_⟩
    obtain ⟨ddx, tp, st, ed, _, rfl⟩ := D.ex
    have nsd : d ≠ s := fun z => by
      rw [z, es] at ed
      injection (Option.some.inj ed) with _ _ h3
      exact absurd h3 (by unfold dfl; intro z; cases z)
    have nfd : ∀ b, b = s → ¬ dF d ls lu b := fun b z y => by
      obtain ⟨rs, h3, _⟩ := D.uns
      rw [z] at y
      rcases y with y | y | y
      · exact nsd y.symm
      · exact ne_of es D.sure (by intro z; cases z) y
      · exact ne_of es h3 (by intro z; cases z) y
    refine ⟨_, rfl, _, rfl, s, A.c 52, dx, _, rfl, es, T.cl_Store, T.n_Store_disk, by show 0 < 1000; decide, ?_⟩
    have k1 : Kp (fun b => b = s) H (upd H s (.ins (A.c 52) dx [("disk", .ref d)])) := Kp.updI es rfl
    have e1 : upd H s (.ins (A.c 52) dx [("disk", .ref d)]) s = some (.ins (A.c 52) dx [("disk", .ref d)]) := upd_same
    show tSeq _ _ _ _ (upd H s (.ins (A.c 52) dx [("disk", .ref d)]))
    generalize upd H s (.ins (A.c 52) dx [("disk", .ref d)]) = H1 at k1 e1 ⊢
    have ed1 := k1.t.ins ed nsd
    refine ⟨_, rfl, d, A.c 61, ddx, _, _, rfl, ed1, T.cl_Disk, T.n_Disk_stops, K5.l_stops .., _, rfl, s, A.c 52, dx, _, rfl, e1, T.cl_Store, T.n_Store_stops, by show 1 < 1000; decide, ?_⟩
    have k2 : Kp (fun b => b = s) H1 (upd H1 s (.ins (A.c 52) dx [("disk", .ref d), ("stops", .int m.stops)])) := Kp.updI e1 rfl
    have e2 : upd H1 s (.ins (A.c 52) dx [("disk", .ref d), ("stops", .int m.stops)]) s = some (.ins (A.c 52) dx [("disk", .ref d), ("stops", .int m.stops)]) := upd_same
    rw [show putF "stops" (V.int m.stops) [("disk", V.ref d)] = ([("disk", V.ref d), ("stops", V.int m.stops)] : List (Str × V)) from rfl]
    generalize upd H1 s (.ins (A.c 52) dx [("disk", .ref d), ("stops", .int m.stops)]) = H2 at k2 e2 ⊢
    have kH2 : Kp (fun b => b = s) H H2 := k1.trans k2 fun b z => .inl z
    have D2 := D.kt kH2.t nfd
    refine ⟨_, rfl, d, ddx, _, rfl, k2.t.ins ed1 nsd, rfl, ?_⟩
    unfold tCons tC tNil
    show spDk3 (dAd A) [.ref d, .int 0] H2 _ _
    refine dk_read (n := 0) D2 Gm (by decide) (by decide) hr1 hp fun G kG => ?_
    have e0 : m.sure.getD (0 : Int).toNat .non = .non := by
      rw [List.getD_eq_getElem?_getD, show (0 : Int).toNat = 0 from rfl, h0]
      rfl
    rw [e0]
    refine ⟨false, rfl, iteF ⟨_, rfl, s, A.c 52, dx, _, rfl, kG.t.ins e2 (fun z => z), T.cl_Store, T.n_Store_root, by show 2 < 1000; decide, ?_⟩⟩
    have e3 := kG.t.ins e2 fun z => z
    have kF : Kp (fun b => b = s) H (upd G s (.ins (A.c 52) dx (sfl d m.stops (.ref nr)))) := (kH2.trans (kG.sub (F' := fun b => b = s) fun _ z => False.elim z) fun b z => .inl z).trans (Kp.updI (F := fun b => b = s) e3 rfl) fun b z => .inl z
    exact k _ kF ⟨⟨dx, upd_same⟩, D.kt kF.t nfd, Gm, hr1, hp⟩
/-! ### stored_table -/
theorem scStt : FnScope ["self", "run", "number", "places", "table", "page", "content"] ["self"] (defScope s_Store_stored_table) := ⟨rfl, rfl, rfl, by decide +kernel, rfl, by decide +kernel, by decide +kernel⟩
def spStored (A : Ad) (K : PySem.W.Frag) : Sp := fun vs H Q _ => ∃ (s d ls lu r : Addr) (m : M), vs = [.ref s] ∧ StAt A H s d ls lu r m ∧ RtAt K H r 0 ∧ m.sure = List.replicate 35 .non ∧ ∀ G a r' h g, H a = none → H r' = none → H h = none → H g = none → TabAt A G a r' h g TT.new 0 → Kp No H G → Q (.ref a) G
theorem ok_stored (T : Txt K mg A) : ∃ fd, FnOk P w K mg base CX0 4 (A.m 52 5) fd ["self"] (spStored A K) ∧ Binds K fd ["self"] [] := by
  obtain ⟨fd, F⟩ := T.m_Store_stored_table.fn
  obtain ⟨fd3, G_Disk_read, b_Disk_read⟩ := ok_dk3 (P := P) (w := w) (base := base) (dTx T)
  obtain ⟨fdI, G_Table___init__, b_Table___init__⟩ := ok_tinit (P := P) (w := w) (base := base) T
  obtain ⟨fd6, Gpage_block, bpage_block⟩ := ok_page_block (P := P) (w := w) (base := base) T
  refine ⟨fd, F.ok scStt (fun vs H Q E h => ?_) (fun cdv Ar outer s H vs Q E hr h => ?_), F.binds fun _ _ _ _ _ _ us hl => match us, hl with | [_], _ => rfl⟩
  · obtain ⟨s, d, ls, lu, r, m, rfl, _⟩ := h
    rfl
  · obtain ⟨s, d, ls, lu, r, m, rfl, S, R, hs, k⟩ := h
    refine ⟨_, (pss_cons (ps_asg (pe_fld (pv 0) rfl) (pg_tup rfl (pgs_cons (pg_name (i := 1) scStt.nd rfl (Or.inl rfl)) (pgs_cons (pg_name (i := 2) scStt.nd rfl (Or.inl rfl)) (pgs_cons (pg_name (i := 3) scStt.nd rfl (Or.inl rfl)) pgs_nil)))))
      (pss_cons (ps_set (i := 4) scStt.nd rfl (Or.inl rfl) (pe_make0 (E := E0) T.mk_Table G_Table___init__ (hr.mono (by first | decide | omega)) rfl T.c_Table b_Table___init__ .nil pass0))
      (pss_cons (ps_fld (pv 4) (pv 2) rfl)
      (C8.pss_cut (ps_for PassesOwn.never rfl (pi_range1 (by rfl) T.range (pa_cons (pe_glob (v := .int 9) rfl T.k_PAGES.choose_spec ⟨_, rfl⟩) pa_nil)) (pg_name (i := 5) scStt.nd rfl (Or.inl rfl))
        (pss_cons (ps_set (i := 6) scStt.nd rfl (Or.inl rfl) (pe_meth (E := fun _ _ _ => False) (pe_fld (pv 0) rfl) T.cl_Disk T.m_Disk_read.me G_Disk_read (hr.mono (by first | decide | omega)) b_Disk_read .nil (L2N.passes_call takesN0 fun _ _ _ _ h => h) (pa_cons (pe_call Gpage_block (hr.mono (by first | decide | omega)) rfl T.page_block.at_ T.page_block.kp bpage_block .nil pass0 (pa_cons (pv 5) (pa_cons (pe_ix ix_tup (pv 3) (pv 5) (fun _ _ => rfl)) pa_nil))) pa_nil)))
        (pss_one (ps_if (pt_cmp (pc_notN (pv 6)))
          (pss_one ps_never)
          pss_nil))))
      (pss_one (ps_ret (pv 4))))))), ?_⟩
    obtain ⟨dx, es⟩ := S.at_
    obtain ⟨run, p, pl, r1, r2, r3, r4⟩ := R.ex
    refine ⟨_, rfl, s, A.c 52, dx, _, _, rfl, es, T.cl_Store, T.n_Store_root, l_sroot .., r, _, rfl, r1, rfl, _, _, rfl, _, _, rfl, _, _, rfl, rfl, ?_⟩
    refine fun a dx' na ndx nex => ⟨a, dx', rfl, upd_same, fun G r0 h0 g0 nr nh ng TB kG => ?_⟩
    have na0 : upd H dx' (.own a) a = none := (upd_ne nex.symm).trans na
    have k0 : Kp (fun b => b = a) H G := (((Kp.new (F := fun b => b = a) ndx).andN na0).trans kG fun _ z => .inl z)
    obtain ⟨dx2, e0⟩ := TB.at_
    have nfa : ∀ {b o}, H b = some o → ¬ b = a := fun e z => by rw [z, na] at e; cases e
    refine ⟨rfl, _, rfl, _, rfl, a, A.c 44, dx2, _, rfl, e0, T.cl_Table, T.n_Table_number, by show 4 < 1000; decide, ?_⟩
    rw [p_num]
    have k1 : Kp (fun b => b = a) H (upd G a (.ins (A.c 44) dx2 (tfl 0 TT.new.mom r0 h0))) := k0.andI e0 rfl
    have kS : Kp (fun b => b = a) G (upd G a (.ins (A.c 44) dx2 (tfl 0 TT.new.mom r0 h0))) := Kp.updI e0 rfl
    have TB1 : TabAt A (upd G a (.ins (A.c 44) dx2 (tfl 0 TT.new.mom r0 h0))) a r0 h0 g0 TT.new 0 := by
      obtain ⟨_, q1⟩ := TB.rows.dc
      obtain ⟨_, q2⟩ := TB.hands.dc
      obtain ⟨_, q3⟩ := TB.gone.dc
      exact ⟨⟨dx2, upd_same⟩, TB.rows.kt kS.t (ne_of q1 e0 (by intro z; cases z)), TB.hands.kt kS.t (ne_of q2 e0 (by intro z; cases z)), TB.gone.kt kS.t (ne_of q3 e0 (by intro z; cases z)), TB.rh⟩
    generalize upd G a (.ins (A.c 44) dx2 (tfl 0 TT.new.mom r0 h0)) = G1 at k1 TB1 ⊢
    have S1 := S.kt k1.t fun b z y => by
      obtain ⟨ddx, tpx, st, ed, _⟩ := S.dk.ex
      obtain ⟨rs, h3, _⟩ := S.dk.uns
      rcases y with y | y | y | y
      · exact nfa es (y ▸ z)
      · exact nfa ed (y ▸ z)
      · exact nfa S.dk.sure (y ▸ z)
      · exact nfa h3 (y ▸ z)
    have R1 := SqT.kt k1.t r2
    obtain ⟨dx1, es1⟩ := S1.at_
    obtain ⟨ddx, tpx, st, ed, _⟩ := S1.dk.ex
    refine ⟨fun σ J => ∃ o1 o2, σ = [some (.ref s), some (.int run), some (.int 0), some (.ref p), some (.ref a), o1, o2] ∧ Kp No G1 J, ?_, ?_⟩
    · refine ⟨9, rfl, by decide, by decide, for_range (lo := 0) (n := (9 : Int).toNat) (fun i σ J => ∃ o1 o2, σ = [some (.ref s), some (.int run), some (.int 0), some (.ref p), some (.ref a), o1, o2] ∧ Kp No G1 J) ⟨_, _, rfl, Kp.refl _ _⟩ ?_ ?_⟩
      · rintro i σ J hi ⟨o1, o2, rfl, kJ⟩
        have hi9 : i < 9 := by simpa using hi
        have hlt : i < pl.length := by omega
        have eat : atI (pl.map V.int) (0 + (i : Nat)) = some (.int pl[i]) := by
          unfold atI
          rw [ixN_in (by omega) (by rw [List.length_map]; omega), Option.bind_some, List.getElem?_map, show (0 + (i : Int)).toNat = i by omega, List.getElem?_eq_getElem hlt]
          rfl
        have hz1 := r4 _ (List.getElem_mem hlt)
        refine ⟨_, rfl, s, A.c 52, dx1, _, _, rfl, kJ.t.ins es1 (fun z => z), T.cl_Store, T.n_Store_disk, l_sdisk .., d, ddx, _, rfl, kJ.t.ins ed (fun z => z), rfl, _, rfl, _, rfl, _, rfl, p, _, _, .int pl[i], rfl, rfl, SqT.kt kJ.t R1, eat, _, _, rfl, ?_⟩
        unfold tNil
        show spDk3 (dAd A) [.ref d, .int (17 + 2 * (0 + (i : Int)) + pl[i])] J _ _
        refine dk_read (S1.dk.kt kJ.t fun _ z => False.elim z) S1.gd (by omega) (by omega) S1.run S1.pend fun G2 kG2 => ?_
        have e1 : m.sure.getD (17 + 2 * (0 + (i : Int)) + pl[i]).toNat .non = .non := by
          rw [hs, List.getD_eq_getElem?_getD]
          cases e : (List.replicate 35 V.non)[(17 + 2 * (0 + (i : Int)) + pl[i]).toNat]? with
          | none => rfl
          | some v => exact List.eq_of_mem_replicate (List.mem_of_getElem? e)
        rw [e1]
        exact ⟨_, rfl, _, rfl, iteF ⟨_, _, rfl, kJ.trans kG2 fun _ z => False.elim z⟩⟩
      · rintro σ J ⟨o1, o2, rfl, kJ⟩
        exact ⟨o1, o2, rfl, kJ⟩
    · rintro σ J ⟨o1, o2, rfl, kJ⟩
      exact ⟨_, rfl, k J a r0 h0 g0 na (upd_none (upd_none nr).2).2 (upd_none (upd_none nh).2).2 (upd_none (upd_none ng).2).2 (TB1.no kJ.t) (kp_fresh (k1.trans (kJ.sub (F' := fun b => b = a) fun _ z => False.elim z) fun b z => .inl z) fun b z => by rw [z]; exact na)⟩
end
end S02

set_option Elab.async false
set_option linter.all false
set_option maxRecDepth 100000
set_option maxHeartbeats 4000000
namespace S02
open PySem PySem.Spec PyProof.Rows L2 K5 SupX GenX
section
variable {P : Program} {w : World} {K : PySem.W.Frag} {mg : Str → Option Value} {base : Heap} {A : Ad} {tp : Nat → Addr} {nr pl : Addr}
/-! ### last_entries -/
theorem scLe : FnScope ["self", "found", "last", "number", "block"] ["self"] (defScope s_Store_last_entries) := ⟨rfl, rfl, rfl, by decide +kernel, rfl, by decide +kernel, by decide +kernel⟩
def spLastE (A : Ad) (K : PySem.W.Frag) : Sp := fun vs H Q _ => ∃ (s d ls lu r : Addr) (m : M), vs = [.ref s] ∧ StAt A H s d ls lu r m ∧ RtAt K H r 0 ∧ ∀ G l, H l = none → Kp No H G → G l = some (.lst []) → Q (.ref l) G
theorem ok_last_entries (T : Txt K mg A) : ∃ fd, FnOk P w K mg base CX0 1 (A.m 52 6) fd ["self"] (spLastE A K) ∧ Binds K fd ["self"] [] := by
  obtain ⟨fd, F⟩ := T.m_Store_last_entries.fn
  refine ⟨fd, F.ok scLe (fun vs H Q E h => ?_) (fun cdv Ar outer s H vs Q E hr h => ?_), F.binds fun _ _ _ _ _ _ us hl => match us, hl with | [_], _ => rfl⟩
  · obtain ⟨s, d, ls, lu, r, m, rfl, _⟩ := h
    rfl
  · obtain ⟨s, d, ls, lu, r, m, rfl, S, R, k⟩ := h
    refine ⟨_, pss_cons (ps_set (i := 1) scLe.nd rfl (Or.inl rfl) (pe_lst pa_nil)) (pss_cons (ps_set (i := 2) scLe.nd rfl (Or.inl rfl) (pe_ix ix_tup (pe_fld (pv 0) rfl) pe_int (fun _ _ => rfl)))
      (pss_cons (ps_for PassesOwn.never rfl (pi_range3 (by rfl) T.range (pa_cons (pv 2) (pa_cons (pe_callB (call_max2 rfl) (by rfl) T.max (by decide +kernel) (pa_cons pe_int (pa_cons (pe_op op_sub (pv 2) (pe_glob (v := .int 16) rfl T.k_MOST_ENTRIES.choose_spec ⟨_, rfl⟩)) pa_nil))) (pa_cons (pe_un un_neg pe_int) pa_nil)))) (pg_name (i := 3) scLe.nd rfl (Or.inl rfl)) pss_never)
      (pss_one (ps_ret (pe_rev0 (pv 1) po_none po_none (po_some (pe_un un_neg pe_int))))))), ?_⟩
    obtain ⟨dx, es⟩ := S.at_
    obtain ⟨run, p, pl, r1, r2, r3, r4⟩ := R.ex
    refine ⟨Nat.zero_le _, fun l nl => ?_⟩
    have kl : Kp No H (upd H l (.lst [])) := Kp.new nl
    have el : upd H l (.lst []) l = some (.lst []) := upd_same
    generalize upd H l (.lst []) = H1 at kl el ⊢
    refine ⟨_, rfl, s, A.c 52, dx, _, _, rfl, kl.t.ins es (fun z => z), T.cl_Store, T.n_Store_root, l_sroot .., r, _, 1, .int 0, rfl, rfl, SqT.kt kl.t r1, rfl, ?_⟩
    refine ⟨_, rfl, _, rfl, _, _, rfl, rfl, _, _, rfl, ?_⟩
    rw [if_neg (show ¬ ((0 : Int) - 16 > 0) by decide)]
    refine ⟨_, rfl, 0, 0, -1, 0, rfl, RgC.neg (i := 0) (j := 0) (by decide) (by decide) (by decide) (by decide), for_rangeC (lo := 0) (c := -1) (n := 0) (fun i σ J => J = H1 ∧ ∃ o1 o2, σ = [some (.ref s), some (.ref l), some (.int 0), o1, o2]) ⟨rfl, _, _, rfl⟩ (fun i σ J hi => absurd hi (Nat.not_lt_zero _)) ?_⟩
    rintro σ J ⟨rfl, o1, o2, rfl⟩
    exact ⟨_, rfl, _, rfl, _, rfl, rfl, rfl, rfl, l, rfl, SqL.of el, fun q nq => k _ q (kl.free nq fun z => False.elim z) (kl.trans (Kp.new nq) fun _ z => False.elim z) upd_same⟩
end
end S02

set_option Elab.async false
set_option linter.all false
set_option maxRecDepth 100000
set_option maxHeartbeats 4000000
/-! ### what is told of a page -/
namespace S02
open PySem PySem.Spec PyProof.Rows L2 K5 SupX GenX
inductive Pst where
  | rows (l : List (Int × Int × Int))
  | hands (m : Int) (l : List (Int × Int × Int × Bool))
def stOf (t : TT) (p : Int) : Pst := if p = 8 then .hands t.mom (hnRows t.hands) else .rows ((pgRows t.rows p).filter (shF t.mom))
def StV (H : Hp) (v : V) : Pst → Prop
  | .rows l => ∃ b, v = .ref b ∧ PgAt H b l
  | .hands m l => ∃ b c, v = .ref b ∧ H b = some (.tup [.int m, .ref c]) ∧ PhAt H c l
theorem StV.kt {F : Addr → Prop} {H G : Hp} (k : Kt F H G) {v : V} : ∀ {s : Pst}, StV H v s → StV G v s
  | .rows _, ⟨b, e, h⟩ => ⟨b, e, h.kt k⟩
  | .hands _ _, ⟨b, c, e, h1, h2⟩ => ⟨b, c, e, k.tup h1, h2.kt k⟩
def dRw (q : Int × Int × Int) : PyData := .tuple [.int q.1, .int q.2.1, .int q.2.2]
def dRh (q : Int × Int × Int × Bool) : PyData := .tuple [.int q.1, .int q.2.1, .int q.2.2.1, .bool q.2.2.2]
def dSt : Pst → PyData
  | .rows l => .tuple (l.map dRw)
  | .hands m l => .tuple [.int m, .tuple (l.map dRh)]
section
variable {K : PySem.W.Frag} {H : Hp}
theorem dt_rwD {v : V} {q : Int × Int × Int} (h : RwV H v q) : Dt K H 1 v (dRw q) := by
  obtain ⟨a, rfl, e⟩ := h
  exact Dt.tup e ((Dt.int 0 _).cons ((Dt.int 0 _).cons ((Dt.int 0 _).cons (DtA.nil 0))))
theorem dt_rhD {v : V} {q : Int × Int × Int × Bool} (h : RhV H v q) : Dt K H 1 v (dRh q) := by
  obtain ⟨a, rfl, e⟩ := h
  exact Dt.tup e ((Dt.int 0 _).cons ((Dt.int 0 _).cons ((Dt.int 0 _).cons ((Dt.bl 0 _).cons (DtA.nil 0)))))
theorem dt_map {α : Type} {R : V → α → Prop} {n : Nat} {f : α → PyData} (h : ∀ v a, R v a → Dt K H n v (f a)) {xs : List V} {ys : List α} (p : Paired R xs ys) : DtA K H n xs (ys.map f) := by
  induction p with
  | nil => exact DtA.nil n
  | cons r _ ih => exact (h _ _ r).cons ih
theorem dt_int_up (n : Nat) (i : Int) : Dt K H n (.int i) (.int i) := Dt.int n i
theorem dt_st {v : V} : ∀ {s : Pst}, StV H v s → Dt K H 3 v (dSt s)
  | .rows l, ⟨b, e, xs, h1, p⟩ => by
    subst e
    have h := Dt.tup h1 (dt_map (K := K) (fun _ _ z => dt_rwD z) p)
    exact ⟨h.1, h.2.1, Nat.le_trans h.2.2 (by decide)⟩
  | .hands m l, ⟨b, c, e, h1, xs, h2, p⟩ => by
    subst e
    exact Dt.tup h1 ((Dt.int 2 _).cons ((Dt.tup h2 (dt_map (K := K) (fun _ _ z => dt_rhD z) p)).cons (DtA.nil 2)))
end
/-! data that is equal is the same -/
theorem eqv_int {i j : Int} (h : PyData.eqv (.int i) (.int j) = true) : i = j := by
  simpa only [PyData.eqv, beq_iff_eq] using h
theorem eqv_bool {i j : Bool} (h : PyData.eqv (.bool i) (.bool j) = true) : i = j := by
  simpa only [PyData.eqv, beq_iff_eq] using h
theorem eqv_cons {x y : PyData} {xs ys : List PyData} (h : PyData.eqvAll (x :: xs) (y :: ys) = true) : PyData.eqv x y = true ∧ PyData.eqvAll xs ys = true := by
  simpa only [PyData.eqvAll, Bool.and_eq_true] using h
theorem eqv_tup {xs ys : List PyData} (h : PyData.eqv (.tuple xs) (.tuple ys) = true) : PyData.eqvAll xs ys = true := by
  simpa only [PyData.eqv] using h
theorem eqv_rw {a b : Int × Int × Int} (h : PyData.eqv (dRw a) (dRw b) = true) : a = b := by
  obtain ⟨a1, a2, a3⟩ := a
  obtain ⟨b1, b2, b3⟩ := b
  obtain ⟨h1, h⟩ := eqv_cons (eqv_tup h)
  obtain ⟨h2, h⟩ := eqv_cons h
  obtain ⟨h3, _⟩ := eqv_cons h
  have e1 : a1 = b1 := eqv_int h1
  have e2 : a2 = b2 := eqv_int h2
  have e3 : a3 = b3 := eqv_int h3
  rw [e1, e2, e3]
theorem eqv_rh {a b : Int × Int × Int × Bool} (h : PyData.eqv (dRh a) (dRh b) = true) : a = b := by
  obtain ⟨a1, a2, a3, a4⟩ := a
  obtain ⟨b1, b2, b3, b4⟩ := b
  obtain ⟨h1, h⟩ := eqv_cons (eqv_tup h)
  obtain ⟨h2, h⟩ := eqv_cons h
  obtain ⟨h3, h⟩ := eqv_cons h
  obtain ⟨h4, _⟩ := eqv_cons h
  have e1 : a1 = b1 := eqv_int h1
  have e2 : a2 = b2 := eqv_int h2
  have e3 : a3 = b3 := eqv_int h3
  have e4 : a4 = b4 := eqv_bool h4
  rw [e1, e2, e3, e4]
theorem eqv_list {α : Type} {f : α → PyData} (hf : ∀ {a b : α}, PyData.eqv (f a) (f b) = true → a = b) : ∀ {l m : List α}, PyData.eqvAll (l.map f) (m.map f) = true → l = m
  | [], [], _ => rfl
  | [], b :: m, h => by rw [List.map_cons, List.map_nil] at h; simp only [PyData.eqvAll] at h; cases h
  | a :: l, [], h => by rw [List.map_cons, List.map_nil] at h; simp only [PyData.eqvAll] at h; cases h
  | a :: l, b :: m, h => by
    obtain ⟨h1, h2⟩ := eqv_cons (show PyData.eqvAll (f a :: l.map f) (f b :: m.map f) = true from h)
    rw [hf h1, eqv_list hf h2]
/-- page states of the same page -/
def Like : Pst → Pst → Prop
  | .rows _, .rows _ => True
  | .hands _ _, .hands _ _ => True
  | _, _ => False
theorem like_st (t u : TT) (p : Int) : Like (stOf t p) (stOf u p) := by
  unfold stOf
  by_cases h : p = 8
  · rw [if_pos h, if_pos h]; exact trivial
  · rw [if_neg h, if_neg h]; exact trivial
theorem eqv_st : ∀ {a b : Pst}, Like a b → PyData.eqv (dSt a) (dSt b) = true → a = b
  | .rows l, .rows m, _, h => by rw [eqv_list eqv_rw (eqv_tup h)]
  | .hands i l, .hands j m, _, h => by
    obtain ⟨h1, h⟩ := eqv_cons (eqv_tup h)
    obtain ⟨h2, _⟩ := eqv_cons h
    rw [eqv_int h1, eqv_list eqv_rh (eqv_tup h2)]
  | .rows _, .hands _ _, k, _ => k.elim
  | .hands _ _, .rows _, k, _ => k.elim
section
variable {P : Program} {w : World} {K : PySem.W.Frag} {mg : Str → Option Value} {base : Heap} {A : Ad} {tp : Nat → Addr}
/-! ### kept, of the page of hands -/
def spKept8 (A : Ad) (tp : Nat → Addr) : Sp := fun vs H Q _ => ∃ (a r h g : Addr) (t : TT) (n : Nat), vs = [.ref a, .int 8] ∧ TabAt A H a r h g t n ∧ Tg (tL tp) H ∧
  ∀ G b c, H b = none → Kg (tL tp) No H G → G b = some (.tup [.int t.mom, .ref c]) → PhAt G c (hnRows t.hands) → Q (.ref b) G
theorem ok_kept8 (T : Txt K mg A) (TB : TbsB base mg A tp) : ∃ fd, FnOk P w K mg base CX0 6 (A.m 44 9) fd ["self", "page"] (spKept8 A tp) ∧ Binds K fd ["self", "page"] [] := by
  obtain ⟨fdP, G_Table_page_rows, b_Table_page_rows⟩ := ok_page_rows (P := P) (w := w) (base := base) T TB
  obtain ⟨fdH, G_Table_hand_rows, b_Table_hand_rows⟩ := ok_hand_rows (P := P) (w := w) (base := base) T TB
  obtain ⟨fd, F⟩ := T.m_Table_kept.fn
  refine ⟨fd, F.ok scKp (fun vs H Q E h => ?_) (fun cdv Ar outer s H vs Q E hr h => ?_), F.binds fun _ _ _ _ _ _ us hl => match us, hl with | [_, _], _ => rfl⟩
  · obtain ⟨a, r, h, g, t, n, rfl, _⟩ := h
    rfl
  · obtain ⟨a, r, h, g, t, n, rfl, TA, TG, k⟩ := h
    have hu := hu_of hr
    refine ⟨_, (pss_cons (ps_if (pt_cmpR op_eq (pv 1) (pe_glob (v := .int 8) rfl T.k_HANDS_PAGE.choose_spec ⟨_, rfl⟩) (nomark _))
        (pss_one (ps_ret (pe_tup (pa_cons (pe_fld (pv 0) rfl) (pa_cons (pe_meth0 (pv 0) T.cl_Table T.m_Table_hand_rows.me G_Table_hand_rows (hr.mono (by first | decide | omega)) b_Table_hand_rows .nil pass0) pa_nil)))))
        pss_nil)
      (pss_one (ps_ret (pe_meth (pv 0) T.cl_Table T.m_Table_page_rows.me G_Table_page_rows (hr.mono (by first | decide | omega)) b_Table_page_rows .nil pass0 (pa_cons (pv 1) pa_nil))))), ?_⟩
    obtain ⟨dx, ea⟩ := TA.at_
    refine ⟨_, rfl, rfl, _, rfl, ?_⟩
    rw [show decide (V.int 8 = V.int 8) = true from rfl]
    refine iteT ⟨_, rfl, a, A.c 44, dx, _, _, rfl, ea, T.cl_Table, T.n_Table_moment, l_mom .., _, rfl, a, dx, _, rfl, ea, rfl, a, r, h, g, t, n, rfl, TA, TG, fun G1 c nc kg hph => ⟨sz 2 (by decide), fun b nb => ?_⟩⟩
    exact k _ b c (kg.free nb fun z => False.elim z) (kg.trans (Kg.of (Kp.new nb)) fun _ z => False.elim z) upd_same (hph.kt (Kp.new (F := No) nb).t)
/-! ### shown, of every page -/
def spShownX (A : Ad) (tp : Nat → Addr) : Sp := fun vs H Q _ => ∃ (a r h g : Addr) (t : TT) (n : Nat) (p : Int), vs = [.ref a, .int p] ∧ TabAt A H a r h g t n ∧ Tg (tL tp) H ∧ 0 ≤ p ∧ p ≤ 8 ∧
  ∀ G v, Kg (tL tp) No H G → StV G v (stOf t p) → Q v G
theorem ok_shownX (T : Txt K mg A) (TB : TbsB base mg A tp) : ∃ fd, FnOk P w K mg base CX0 7 (A.m 44 10) fd ["self", "page"] (spShownX A tp) ∧ Binds K fd ["self", "page"] [] := by
  obtain ⟨fdP, Gpr, bpr⟩ := ok_page_rows (P := P) (w := w) (base := base) T TB
  obtain ⟨fdS, Gis, bis⟩ := ok_is_shown (P := P) (w := w) (base := base) T
  obtain ⟨fdK, Gk8, bk8⟩ := ok_kept8 (P := P) (w := w) (base := base) T TB
  refine okC T.C_Table_shown scSh (fun vs H Q E h => ?_) (fun Ar outer s H vs Q E hr h => ?_) (fun _ _ _ _ _ us hl => match us, hl with | [_, _], _ => rfl)
  · obtain ⟨a, r, h, g, t, n, p, rfl, _⟩ := h
    rfl
  · obtain ⟨a, r, h, g, t, n, p, rfl, TA, TG, p0, p7, k⟩ := h
    have hu := hu_of hr
    refine ⟨_, pss_cons (ps_if (pt_cmpR op_eq (pv 1) (pe_glob (v := .int 8) rfl T.k_HANDS_PAGE.choose_spec ⟨_, rfl⟩) (nomark _)) (pss_one (ps_ret (pe_meth (pv 0) T.cl_Table T.m_Table_kept.me Gk8 hr bk8 .nil pass0 (pa_cons (pv 1) pa_nil)))) pss_nil)
      (pss_one (ps_ret (pe_tupG (k := 2) (pgen_gex (k := 1) (own := [("row", 2)]) (g := gName 2) (tt := tB (tCall spShown [] E0 (tCons (tOp (rIxT K) (tVar 2) (tC (.int 2))) (tCons (tFld K (tVar 0) "moment") tNil)))) (te := tVar 2) hr.hd (by have := hr.dp; show (Ar.deeper _).depth < _; omega) TB.sh rfl (blkOk_by (N := NscSh) (sc := defScope s_Table_shown) (by decide +kernel)) scSh.nd (by decide +kernel) rfl rfl
        (pi_tup (pe_meth (pv 0) T.cl_Table T.m_Table_page_rows.me Gpr (hr.mono (by decide)) bpr .nil pass0 (pa_cons (pv 1) pa_nil))) (fun _ => rfl)
        (fun _ _ _ _ _ _ _ _ => pg_name (i := 2) scSh.nd rfl (Or.inl rfl)) (fun _ _ _ _ _ _ _ hr => by exact pts_one (pt_val (pe_call Gis hr rfl T.is_shown.at_ T.is_shown.kp bis .nil pass0 (pa_cons (pe_ix ix_tup (pv 2) pe_int (fun _ _ => rfl)) (pa_cons (pe_fld (pv 0) rfl) pa_nil))))) (fun _ _ _ _ _ _ _ hr => by exact pv 2)) (hr.mono (by decide)) rfl T.tuple))), ?_⟩
    have m10 : tp 10 ∈ tL tp := List.mem_cons_of_mem _ (List.mem_cons_of_mem _ List.mem_cons_self)
    obtain ⟨dx, ea⟩ := TA.at_
    refine ⟨_, rfl, rfl, _, rfl, ?_⟩
    by_cases e8 : p = 8
    · subst e8
      rw [show decide (V.int 8 = V.int 8) = true from rfl]
      refine iteT ⟨_, rfl, a, dx, _, rfl, ea, rfl, _, rfl, a, r, h, g, t, n, rfl, TA, TG, fun G b c nb kg hb hp => ?_⟩
      exact k G _ kg (by unfold stOf; rw [if_pos rfl]; exact ⟨b, c, rfl, hb, hp⟩)
    rw [show decide (V.int p = V.int 8) = false by simp; omega]
    refine iteF ⟨_, rfl, a, dx, _, rfl, ea, rfl, _, rfl, a, r, h, g, t, n, p, rfl, TA, TG, p0, by omega, fun G1 c f sf nc kg hpg _ => ?_⟩
    obtain ⟨xs, hc, pc⟩ := hpg
    obtain ⟨ps, hP, tri⟩ := (TG.kg kg) _ m10
    refine ⟨c, rfl, ⟨_, SqT.of hc⟩, ps, hP, tri, fun qs tq => ?_⟩
    have kt : Kg (tL tp) No H (upd G1 (tp 10) (.tbl qs)) := kg.trans (Kg.tab m10 hP tq) fun _ z => False.elim z
    have k1 : Kg (tL tp) No G1 (upd G1 (tp 10) (.tbl qs)) := Kg.tab m10 hP tq
    generalize upd G1 (tp 10) (.tbl qs) = G2 at kt k1 ⊢
    have hc2 := k1.t.tup hc
    have pc2 : Paired (RwV G2) xs (pgRows f p) := pc.mono fun _ _ z => z.kt k1.t
    refine gx_tup (K := K) (a := c) (xs := xs) (fun i zs J => Kg (tL tp) No G2 J ∧ zs.length ≤ i ∧ Paired (RwV J) zs (((pgRows f p).take i).filter (shF t.mom))) ⟨Kg.refl _ _ _, Nat.le_refl _, by rw [List.take_zero]; exact .nil⟩ (fun i zs J _ ⟨kJ, _⟩ => SqT.of (kJ.t.tup hc2)) ?_ ?_
    · rintro i x zs J hx ⟨kJ, hl, pJ⟩
      obtain ⟨y, hy, q, rfl, hq⟩ := paired_at pc2 hx
      have hqJ := kJ.t.tup hq
      have hi4 : i < 4 := by
        have h1 := (List.getElem?_eq_some_iff.mp hx).1
        have h2 := pg_len f p
        rw [← pc.length] at h2
        omega
      have tk1 : (((pgRows f p).take (i + 1)).filter (shF t.mom)) = ((pgRows f p).take i).filter (shF t.mom) ++ (if shF t.mom y = true then [y] else []) := by
        rw [take_snoc hy, List.filter_append, List.filter_cons]
        cases shF t.mom y <;> rfl
      have eJ := (kt.trans kJ fun _ z => False.elim z).t.ins ea fun z => z
      refine ⟨rfl, _, rfl, q, _, 2, .int y.2.2, rfl, rfl, SqT.of hqJ, rfl, _, rfl, a, A.c 44, dx, _, _, rfl, eJ, T.cl_Table, T.n_Table_moment, l_mom .., y.2.2, t.mom, rfl, _, rfl, ?_⟩
      refine ite2 (fun z => ⟨_, rfl, szL (by omega), kJ, by rw [List.length_append]; simp only [List.length_cons, List.length_nil]; omega, ?_⟩) (fun z => ⟨kJ, Nat.le_succ_of_le hl, ?_⟩)
      · rw [tk1, if_pos (show shF t.mom y = true from z)]
        exact pJ.snoc ⟨q, rfl, hqJ⟩
      · rw [tk1, if_neg (show ¬ shF t.mom y = true from z), List.append_nil]
        exact pJ
    · rintro zs J ⟨kJ, hl, pJ⟩
      intro b nb
      have kHJ : Kg (tL tp) No H J := kt.trans kJ fun _ z => False.elim z
      rw [pc.length, List.take_length, sf.page p] at pJ
      exact k _ _ (kHJ.trans (Kg.of (Kp.new nb)) fun _ z => False.elim z) (by unfold stOf; rw [if_neg e8]; exact ⟨b, rfl, zs, upd_same, pJ.mono fun _ _ z => z.kt (Kp.new (F := No) nb).t⟩)
end
end S02

set_option Elab.async false
set_option linter.all false
set_option maxRecDepth 100000
set_option maxHeartbeats 4000000
/-! ### a copy -/
namespace S02
open PySem PySem.Spec PyProof.Rows L2 K5 SupX GenX
structure Cp where
  nm : Int
  c : Addr
  wn : Addr
  as_ : Addr
  num : Int
  want : List Int
  t0 : TT
def cfl (n : Int) (wn as_ : Addr) : List (Str × V) := [("number", .int n), ("wanted", .ref wn), ("aside", .ref as_)]
theorem l_cnum (n : Int) (wn as_ : Addr) : (cfl n wn as_).lookup ("number" : Str) = some (.int n) := rfl
theorem l_cwan (n : Int) (wn as_ : Addr) : (cfl n wn as_).lookup ("wanted" : Str) = some (.ref wn) := rfl
theorem l_casd (n : Int) (wn as_ : Addr) : (cfl n wn as_).lookup ("aside" : Str) = some (.ref as_) := rfl
/-- the keys are pages of these, each once -/
def AsK (kvs : List (Key × V)) (want : List Int) : Prop := ∃ ks : List Int, kvs.map (·.1) = ks.map Sum.inl ∧ ks.Nodup ∧ ∀ k ∈ ks, k ∈ want
/-- how a page stands: told of the table, or kept aside; s0 is wanted, s is told -/
def AsO (H : Hp) (kvs : List (Key × V)) (p : Int) (s0 s : Pst) : Prop := (s = s0 ∧ valV kvs (.inl p : Key) = none) ∨ (s ≠ s0 ∧ ∃ v, valV kvs (.inl p : Key) = some v ∧ StV H v s0)
theorem AsO.kt {F : Addr → Prop} {H G : Hp} (k : Kt F H G) {kvs : List (Key × V)} {p : Int} {s0 s : Pst} : AsO H kvs p s0 s → AsO G kvs p s0 s
  | .inl h => .inl h
  | .inr ⟨h, v, e, q⟩ => .inr ⟨h, v, e, q.kt k⟩
theorem keys_drop {kvs : List (Key × V)} {ks : List Int} (j : Int) (h : kvs.map (·.1) = ks.map Sum.inl) : (dropK kvs (.inl j)).map (·.1) = (ks.filter (fun k => !decide (k = j))).map Sum.inl := by
  induction ks generalizing kvs with
  | nil =>
    have : kvs = [] := by simpa using h
    rw [this]
    rfl
  | cons k ks ih =>
    cases kvs with
    | nil => cases h
    | cons p kvs =>
      obtain ⟨e1, e2⟩ := List.cons.inj h
      obtain ⟨pk, pv⟩ := p
      have e1 : pk = Sum.inl k := e1
      subst e1
      have := ih e2
      unfold dropK at this ⊢
      rw [List.filter_cons, List.filter_cons]
      by_cases hk : k = j
      · rw [if_neg (by simp [hk]), if_neg (by simp [hk])]
        exact this
      · rw [if_pos (by simp [hk]), if_pos (by simp [hk]), List.map_cons, List.map_cons, this]
theorem AsK.put {kvs : List (Key × V)} {want : List Int} {j : Int} {v : V} (h : AsK kvs want) (hj : j ∈ want) : AsK (putK kvs (.inl j) v) want := by
  obtain ⟨ks, e1, nd, r⟩ := h
  unfold AsK
  rw [keys_put]
  split
  · exact ⟨ks, e1, nd, r⟩
  · rename_i hn
    have nj : j ∉ ks := fun z => hn (by rw [val_mem, e1]; exact List.mem_map.mpr ⟨j, z, rfl⟩)
    refine ⟨ks ++ [j], by rw [e1, List.map_append]; rfl, ?_, fun k hk => ?_⟩
    · rw [List.nodup_append]
      refine ⟨nd, by simp, fun x hx y hy z => ?_⟩
      rw [List.mem_singleton.mp hy] at z
      exact nj (z ▸ hx)
    · rcases List.mem_append.mp hk with z | z
      · exact r k z
      · rw [List.mem_singleton.mp z]; exact hj
theorem AsK.del {kvs : List (Key × V)} {want : List Int} (j : Int) (h : AsK kvs want) : AsK (dropK kvs (.inl j)) want := by
  obtain ⟨ks, e1, nd, r⟩ := h
  exact ⟨_, keys_drop j e1, nd.filter _, fun k hk => r k (List.mem_filter.mp hk).1⟩
theorem AsK.len {kvs : List (Key × V)} {want : List Int} (h : AsK kvs want) (h9 : ∀ p ∈ want, 0 ≤ p ∧ p ≤ 8) : kvs.length ≤ 9 := by
  obtain ⟨ks, e1, nd, r⟩ := h
  have e2 := congrArg List.length e1
  rw [List.length_map, List.length_map] at e2
  rw [e2]
  have := nodup_le (m := keysFrom 0 9) nd fun k hk => by
    have := h9 k (r k hk)
    unfold keysFrom
    exact List.mem_map.mpr ⟨k.toNat, List.mem_range.mpr (by omega), by omega⟩
  unfold keysFrom at this
  rw [List.length_map, List.length_range] at this
  exact this
theorem erase_at : ∀ {l : List Int} {j : Nat} {a : Int}, l.Nodup → l[j]? = some a → l.eraseIdx j = l.erase a ∧ ∀ m : Nat, m < j → l[m]? ≠ some a
  | [], _, _, _, h => by cases h
  | b :: l, 0, a, nd, h => by
    have e : b = a := Option.some.inj h
    subst e
    exact ⟨by rw [List.erase_cons_head]; rfl, fun m hm => absurd hm (Nat.not_lt_zero m)⟩
  | b :: l, j + 1, a, nd, h => by
    have h2 : l[j]? = some a := h
    obtain ⟨nb, nd2⟩ := List.nodup_cons.mp nd
    have ne : b ≠ a := fun e => nb (by rw [e]; exact List.mem_of_getElem? h2)
    obtain ⟨q1, q2⟩ := erase_at nd2 h2
    refine ⟨?_, fun m hm => ?_⟩
    · rw [List.erase_cons_tail (by simpa using ne)]
      show b :: l.eraseIdx j = _
      rw [q1]
    · cases m with
      | zero => exact fun e => ne (Option.some.inj e)
      | succ m => exact q2 m (by omega)
structure CpAt (A : Ad) (H : Hp) (x : Cp) (t : TT) : Prop where
  at_ : ∃ dx, H x.c = some (.ins (A.c 27) dx (cfl x.num x.wn x.as_))
  wan : H x.wn = some (.lst (x.want.map V.int))
  nd : x.want.Nodup
  in9 : ∀ p ∈ x.want, 0 ≤ p ∧ p ≤ 8
  asd : ∃ kvs, H x.as_ = some (.dK kvs) ∧ AsK kvs x.want ∧ ∀ p ∈ x.want, AsO H kvs p (stOf x.t0 p) (stOf t p)
def cF (x : Cp) : Addr → Prop := fun b => b = x.c ∨ b = x.wn ∨ b = x.as_
theorem CpAt.kt {A : Ad} {F : Addr → Prop} {H G : Hp} (k : Kt F H G) {x : Cp} {t : TT} (h : CpAt A H x t) (n : ∀ b, F b → ¬ cF x b) : CpAt A G x t := by
  obtain ⟨dx, e⟩ := h.at_
  obtain ⟨kvs, e2, hk, ho⟩ := h.asd
  exact ⟨⟨dx, k.ins e fun z => n _ z (.inl rfl)⟩, k.lst h.wan (fun z => n _ z (.inr (.inl rfl))), h.nd, h.in9, kvs, k.dK e2 (fun z => n _ z (.inr (.inr rfl))), hk, fun p hp => (ho p hp).kt k⟩
theorem CpAt.there {A : Ad} {H : Hp} {x : Cp} {t : TT} (h : CpAt A H x t) {b : Addr} (z : cF x b) : ∃ o, H b = some o := by
  obtain ⟨dx, e⟩ := h.at_
  obtain ⟨kvs, e2, _⟩ := h.asd
  rcases z with z | z | z <;> rw [z]
  · exact ⟨_, e⟩
  · exact ⟨_, h.wan⟩
  · exact ⟨_, e2⟩
section
variable {P : Program} {w : World} {K : PySem.W.Frag} {mg : Str → Option Value} {base : Heap} {A : Ad} {tp : Nat → Addr}
/-! ### page_of -/
theorem scPo : FnScope ["self", "table", "page"] ["self", "table", "page"] (defScope s_Copy_page_of) := ⟨rfl, rfl, rfl, by decide +kernel, rfl, by decide +kernel, by decide +kernel⟩
def spPageOf (A : Ad) (tp : Nat → Addr) : Sp := fun vs H Q _ => ∃ (c wn as_ dx : Addr) (num : Int) (kvs : List (Key × V)) (a r h g : Addr) (t : TT) (n : Nat) (p : Int) (s0 : Pst), vs = [.ref c, .ref a, .int p] ∧ H c = some (.ins (A.c 27) dx (cfl num wn as_)) ∧ H as_ = some (.dK kvs) ∧ AsO H kvs p s0 (stOf t p) ∧ TabAt A H a r h g t n ∧ Tg (tL tp) H ∧ 0 ≤ p ∧ p ≤ 8 ∧
  ∀ G v, Kg (tL tp) No H G → StV G v s0 → Q v G
theorem ok_page_of (T : Txt K mg A) (TB : TbsB base mg A tp) : ∃ fd, FnOk P w K mg base CX0 8 (A.m 27 1) fd ["self", "table", "page"] (spPageOf A tp) ∧ Binds K fd ["self", "table", "page"] [] := by
  obtain ⟨fd, F⟩ := T.m_Copy_page_of.fn
  obtain ⟨fdS, G_Table_shown, b_Table_shown⟩ := ok_shownX (P := P) (w := w) (base := base) T TB
  refine ⟨fd, F.ok scPo (fun vs H Q E h => ?_) (fun cdv Ar outer s H vs Q E hr h => ?_), F.binds fun _ _ _ _ _ _ us hl => match us, hl with | [_, _, _], _ => rfl⟩
  · obtain ⟨c, wn, as_, dx, num, kvs, a, r, h, g, t, n, p, s0, rfl, _⟩ := h
    rfl
  · obtain ⟨c, wn, as_, dx, num, kvs, a, r, h, g, t, n, p, s0, rfl, ec, ea, ho, TA, TG, p0, p8, k⟩ := h
    have hu := hu_of hr
    refine ⟨_, (pss_cons (ps_if (pt_cmp (pc_din hu (pv 2) (pe_fld (pv 0) rfl)))
        (pss_one (ps_ret (pe_dget hu (pe_fld (pv 0) rfl) (pv 2) (fun _ _ => rfl))))
        pss_nil)
      (pss_one (ps_ret (pe_meth (pv 1) T.cl_Table T.m_Table_shown.me G_Table_shown (hr.mono (by first | decide | omega)) b_Table_shown .nil pass0 (pa_cons (pv 2) pa_nil))))), ?_⟩
    obtain ⟨dxa, eat⟩ := TA.at_
    refine ⟨_, rfl, _, rfl, c, A.c 27, dx, _, _, rfl, ec, T.cl_Copy, T.n_Copy_aside, l_casd .., as_, _, rfl, DGet.k (k := Sum.inl p) ea, _, rfl, ?_⟩
    rcases ho with ⟨e1, e2⟩ | ⟨_, v, e2, hv⟩
    · rw [e2]
      refine iteF ⟨_, rfl, a, dxa, _, rfl, eat, rfl, _, rfl, a, r, h, g, t, n, p, rfl, TA, TG, p0, p8, fun G v kG hv => k G v kG (by rw [← e1]; exact hv)⟩
    · have dg : DGet H as_ (.int p) (some v) := by
        have := DGet.k (k := Sum.inl p) ea
        rw [e2] at this
        exact this
      rw [e2]
      exact iteT ⟨_, rfl, c, A.c 27, dx, _, _, rfl, ec, T.cl_Copy, T.n_Copy_aside, l_casd .., _, rfl, as_, v, rfl, dg, k H v (Kg.refl _ _ _) hv⟩
/-! ### __init__ -/
theorem scCi : FnScope ["self", "number"] ["self", "number"] (defScope s_Copy___init__) := ⟨rfl, rfl, rfl, by decide +kernel, rfl, by decide +kernel, by decide +kernel⟩
def spCInit (A : Ad) : Sp := fun vs H Q _ => ∃ (c dx : Addr) (num : Int), vs = [.ref c, .int num] ∧ H c = some (.ins (A.c 27) dx []) ∧
  ∀ G wn as_, H wn = none → H as_ = none → wn ≠ as_ → G c = some (.ins (A.c 27) dx (cfl num wn as_)) → G wn = some (.lst ((keysFrom 0 9).map V.int)) → G as_ = some (.dK []) → Kp (fun b => b = c) H G → Q .non G
theorem ok_cinit (T : Txt K mg A) : ∃ fd, FnOk P w K mg base CX0 1 (A.m 27 0) fd ["self", "number"] (spCInit A) ∧ Binds K fd ["self", "number"] [] := by
  obtain ⟨fd, F⟩ := T.m_Copy___init__.fn
  refine ⟨fd, F.ok scCi (fun vs H Q E h => ?_) (fun cdv Ar outer s H vs Q E hr h => ?_), F.binds fun _ _ _ _ _ _ us hl => match us, hl with | [_, _], _ => rfl⟩
  · obtain ⟨c, dx, num, rfl, _⟩ := h
    rfl
  · obtain ⟨c, dx, num, rfl, ec, k⟩ := h
    have hu := hu_of hr
    refine ⟨_, (pss_cons (ps_fld (pv 0) (pv 1) rfl)
      (pss_cons (ps_fld (pv 0) (pe_listRg rfl (by rfl) T.list (prg_1 (by rfl) T.range (pe_glob (v := .int 9) rfl T.k_PAGES.choose_spec ⟨_, rfl⟩))) rfl)
      (pss_one (ps_fld (pv 0) pe_dnewK rfl)))), ?_⟩
    have lt : ∀ n : Nat, n ≤ 5 → n < 1000 := fun n h => by omega
    refine ⟨_, rfl, _, rfl, c, A.c 27, dx, _, rfl, ec, T.cl_Copy, T.n_Copy_number, lt 0 (by decide), ?_⟩
    have k1 : Kp (fun b => b = c) H (upd H c (.ins (A.c 27) dx [("number", .int num)])) := Kp.updI ec rfl
    have e1 : upd H c (.ins (A.c 27) dx [("number", .int num)]) c = some (.ins (A.c 27) dx [("number", .int num)]) := upd_same
    show tSeq _ _ _ _ (upd H c (.ins (A.c 27) dx [("number", .int num)]))
    generalize upd H c (.ins (A.c 27) dx [("number", .int num)]) = H1 at k1 e1 ⊢
    refine ⟨9, rfl, RgOk.of_le (by decide) (by decide) (by decide) (by decide), fun wn nwn => ⟨_, rfl, c, A.c 27, dx, _, rfl, (upd_ne (ne_of_none e1 nwn)).trans e1, T.cl_Copy, T.n_Copy_wanted, lt 1 (by decide), ?_⟩⟩
    have k2 : Kp (fun b => b = c) H1 (upd (upd H1 wn (.lst (rgV 0 9))) c (.ins (A.c 27) dx [("number", .int num), ("wanted", .ref wn)])) := (Kp.new nwn).andI ((upd_ne (ne_of_none e1 nwn)).trans e1) rfl
    have e2 : upd (upd H1 wn (.lst (rgV 0 9))) c (.ins (A.c 27) dx [("number", .int num), ("wanted", .ref wn)]) c = some (.ins (A.c 27) dx [("number", .int num), ("wanted", .ref wn)]) := upd_same
    have w2 : upd (upd H1 wn (.lst (rgV 0 9))) c (.ins (A.c 27) dx [("number", .int num), ("wanted", .ref wn)]) wn = some (.lst ((keysFrom 0 9).map V.int)) := by rw [upd_ne (ne_of_none e1 nwn).symm, upd_same]; rfl
    rw [show putF "wanted" (V.ref wn) [("number", V.int num)] = ([("number", V.int num), ("wanted", V.ref wn)] : List (Str × V)) from rfl]
    generalize upd (upd H1 wn (.lst (rgV 0 9))) c (.ins (A.c 27) dx [("number", .int num), ("wanted", .ref wn)]) = H2 at k2 e2 w2 ⊢
    refine fun as_ nas => ⟨_, rfl, c, A.c 27, dx, _, rfl, (upd_ne (ne_of_none e2 nas)).trans e2, T.cl_Copy, T.n_Copy_aside, lt 2 (by decide), ?_⟩
    have k3 : Kp (fun b => b = c) H2 (upd (upd H2 as_ (.dK [])) c (.ins (A.c 27) dx (cfl num wn as_))) := (Kp.new nas).andI ((upd_ne (ne_of_none e2 nas)).trans e2) rfl
    have nwc : ¬ wn = c := (ne_of_none e1 nwn).symm
    have nac : ¬ as_ = c := (ne_of_none e2 nas).symm
    have hw0 : H wn = none := k1.free nwn fun z => absurd z nwc
    have ha0 : H as_ = none := (k1.trans k2 fun _ z => .inl z).free nas fun z => absurd z nac
    exact k _ wn as_ hw0 ha0 (ne_of_none w2 nas) upd_same (k3.t.lst w2 nwc) (by rw [upd_ne nac, upd_same]) ((k1.trans k2 fun _ z => .inl z).trans k3 fun _ z => .inl z)
/-! ### follow -/
theorem scCf : FnScope ["self", "old", "new", "page", "told"] ["self", "old", "new"] (defScope s_Copy_follow) := ⟨rfl, rfl, rfl, by decide +kernel, rfl, by decide +kernel, by decide +kernel⟩
def spCFollow (A : Ad) (tp : Nat → Addr) : Sp := fun vs H Q _ => ∃ (x : Cp) (a r h g : Addr) (t : TT) (n : Nat) (a2 r2 h2 g2 : Addr) (t2 : TT) (n2 : Nat), vs = [.ref x.c, .ref a, .ref a2] ∧ CpAt A H x t ∧ TabAt A H a r h g t n ∧ TabAt A H a2 r2 h2 g2 t2 n2 ∧ ¬ tF a r h g x.as_ ∧ ¬ tF a2 r2 h2 g2 x.as_ ∧ Tg (tL tp) H ∧
  ∀ G, CpAt A G x t2 → Kg (tL tp) (fun b => b = x.as_) H G → Q .non G
theorem ok_cfollow (T : Txt K mg A) (TB : TbsB base mg A tp) : ∃ fd, FnOk P w K mg base CX0 9 (A.m 27 2) fd ["self", "old", "new"] (spCFollow A tp) ∧ Binds K fd ["self", "old", "new"] [] := by
  obtain ⟨fd, F⟩ := T.m_Copy_follow.fn
  obtain ⟨fdP, G_Copy_page_of, b_Copy_page_of⟩ := ok_page_of (P := P) (w := w) (base := base) T TB
  obtain ⟨fdS, G_Table_shown, b_Table_shown⟩ := ok_shownX (P := P) (w := w) (base := base) T TB
  refine ⟨fd, F.ok scCf (fun vs H Q E h => ?_) (fun cdv Ar outer s H vs Q E hr h => ?_), F.binds fun _ _ _ _ _ _ us hl => match us, hl with | [_, _, _], _ => rfl⟩
  · obtain ⟨x, a, r, h, g, t, n, a2, r2, h2, g2, t2, n2, rfl, _⟩ := h
    rfl
  · obtain ⟨x, a, r, h, g, t, n, a2, r2, h2, g2, t2, n2, rfl, C, TA, TA2, na, na2, TG, k⟩ := h
    have hu := hu_of hr
    refine ⟨_, (pss_one (ps_for PassesOwn.never rfl (pi_list (pe_fld (pv 0) rfl)) (pg_name (i := 3) scCf.nd rfl (Or.inl rfl))
        (pss_cons (ps_set (i := 4) scCf.nd rfl (Or.inl rfl) (pe_meth (pv 0) T.cl_Copy T.m_Copy_page_of.me G_Copy_page_of (hr.mono (by first | decide | omega)) b_Copy_page_of .nil pass0 (pa_cons (pv 1) (pa_cons (pv 3) pa_nil))))
        (pss_one (ps_if (pt_cmpR (op_eqD hr.units) (pv 4) (pe_meth (pv 2) T.cl_Table T.m_Table_shown.me G_Table_shown (hr.mono (by first | decide | omega)) b_Table_shown .nil pass0 (pa_cons (pv 3) pa_nil)) (nomark _))
          (pss_one (ps_expr (pe_dpop2 (pe_fld (pv 0) rfl) (pv 3) pe_non ⟨rfl, rfl, rfl, rfl⟩)))
          (pss_one (ps_dput hu (pe_fld (pv 0) rfl) (pv 3) (pv 4) rfl))))))), ?_⟩
    obtain ⟨dx, ec⟩ := C.at_
    obtain ⟨kvs0, ea0, hk0, ho0⟩ := C.asd
    have nca : x.c ≠ x.as_ := ne_of ec ea0 (by intro z; cases z)
    have nwa : x.wn ≠ x.as_ := ne_of C.wan ea0 (by intro z; cases z)
    refine ⟨_, rfl, x.c, A.c 27, dx, _, _, rfl, ec, T.cl_Copy, T.n_Copy_wanted, l_cwan .., ?_⟩
    refine ⟨x.wn, rfl, ⟨_, SqL.of C.wan⟩, for_list (K := K) (a := x.wn) (xs := x.want.map V.int) (fun i σ J => (∃ o1 o2, σ = [some (.ref x.c), some (.ref a), some (.ref a2), o1, o2]) ∧ Kg (tL tp) (fun b => b = x.as_) H J ∧ ∃ kvs, J x.as_ = some (.dK kvs) ∧ AsK kvs x.want ∧ ∀ j p, x.want[j]? = some p → AsO J kvs p (stOf x.t0 p) (if j < i then stOf t2 p else stOf t p)) ⟨⟨_, _, rfl⟩, Kg.refl _ _ _, kvs0, ea0, hk0, fun j p hj => ?_⟩ (fun i σ J _ ⟨_, kJ, _⟩ => SqL.of (kJ.t.lst C.wan nwa)) ?_ ?_⟩
    · rw [if_neg (Nat.not_lt_zero j)]
      exact ho0 p (List.mem_of_getElem? hj)
    · rintro i y σ J hy ⟨⟨o1, o2, rfl⟩, kJ, kvs, ea, hk, ho⟩
      obtain ⟨p, hp, rfl⟩ : ∃ p, x.want[i]? = some p ∧ y = V.int p := by
        rw [List.getElem?_map] at hy
        cases e : x.want[i]? with
        | none => rw [e] at hy; cases hy
        | some p => rw [e] at hy; exact ⟨p, rfl, (Option.some.inj hy).symm⟩
      obtain ⟨p0, p8⟩ := C.in9 p (List.mem_of_getElem? hp)
      have hop := ho i p hp
      rw [if_neg (Nat.lt_irrefl i)] at hop
      have nF : ∀ {a r h g : Addr}, ¬ tF a r h g x.as_ → ∀ b, b = x.as_ → ¬ tF a r h g b := fun n b z y => n (by rw [← show b = x.as_ from z]; exact y)
      have TJ := TA.kt kJ.t (nF na)
      have TJ2 := TA2.kt kJ.t (nF na2)
      have ecJ := kJ.t.ins ec nca
      refine ⟨_, rfl, x.c, dx, _, rfl, ecJ, rfl, _, rfl, _, rfl, x.c, x.wn, x.as_, dx, x.num, kvs, a, r, h, g, t, n, p, stOf x.t0 p, rfl, ecJ, ea, hop, TJ, TG.kg kJ, p0, p8, fun G1 v k1 hv => ?_⟩
      have kJ1 := kJ.trans k1 fun _ z => False.elim z
      have T2G := TJ2.no k1.t
      obtain ⟨dx2, e2⟩ := T2G.at_
      refine ⟨_, rfl, _, rfl, a2, dx2, _, rfl, e2, rfl, _, rfl, a2, r2, h2, g2, t2, n2, p, rfl, T2G, TG.kg kJ1, p0, p8, fun G2 v2 k2 hv2 => ?_⟩
      have kJ2 := kJ1.trans k2 fun _ z => False.elim z
      have hv' := hv.kt k2.t
      have D1 := dt_st (K := K) hv'
      have D2 := dt_st (K := K) hv2
      have k12 : Kg (tL tp) No J G2 := k1.trans k2 fun _ z => False.elim z
      have ea2 := k12.t.dK ea fun z => z
      have ec2 := kJ2.t.ins ec nca
      have others : ∀ {kv' : List (Key × V)} {G3 : Hp}, Kt (fun b => b = x.as_) G2 G3 → (∀ p', p' ≠ p → valV kv' (.inl p' : Key) = valV kvs (.inl p' : Key)) → ∀ j p', x.want[j]? = some p' → j ≠ i → AsO G3 kv' p' (stOf x.t0 p') (if j < i + 1 then stOf t2 p' else stOf t p') := fun {kv' G3} k3 hv j p' hj hji => by
        have np : p' ≠ p := fun z => by
          rw [z] at hj
          exact hji ((List.getElem?_inj (List.getElem?_eq_some_iff.mp hj).1 C.nd).mp (hj.trans hp.symm))
        have h0 := ((ho j p' hj).kt k12.t).kt k3
        rw [show (if j < i + 1 then stOf t2 p' else stOf t p') = (if j < i then stOf t2 p' else stOf t p') by
          by_cases z : j < i
          · rw [if_pos z, if_pos (by omega)]
          · rw [if_neg z, if_neg (by omega)]]
        rcases h0 with ⟨q1, q2⟩ | ⟨q1, u, q2, q3⟩
        · exact .inl ⟨q1, by rw [hv p' np]; exact q2⟩
        · exact .inr ⟨q1, u, by rw [hv p' np]; exact q2, q3⟩
      refine ⟨_, _, D1.1, D2.1, D1.shaped (by decide), D2.shaped (by decide), _, rfl, ite2 (fun z => ?_) (fun z => ?_)⟩
      · -- it is told yet
        have es : stOf t2 p = stOf x.t0 p := (eqv_st (like_st _ _ _) z).symm
        refine ⟨_, rfl, x.c, A.c 27, dx, _, _, rfl, ec2, T.cl_Copy, T.n_Copy_aside, l_casd .., x.as_, rfl, .inl ⟨kvs, .inl ea2⟩, _, rfl, kvs, Sum.inl p, ea2, rfl, fun u hu => ?_, fun hu => ?_⟩
        · have k3 : Kg (tL tp) (fun b => b = x.as_) G2 (upd G2 x.as_ (.dK (dropK kvs (Sum.inl p)))) := Kg.of (Kp.updD ea2 rfl)
          refine ⟨⟨_, _, rfl⟩, kJ2.trans k3 fun _ z => .inl z, _, upd_same, hk.del p, fun j p' hj => ?_⟩
          by_cases hji : j = i
          · rw [hji, hp] at hj
            cases hj
            rw [if_pos (by omega)]
            exact .inl ⟨es, by rw [valV_drop, if_pos rfl]⟩
          · exact others k3.t (fun p' np => by rw [valV_drop, if_neg (fun z => np (Sum.inl.inj z))]) j p' hj hji
        · refine ⟨⟨_, _, rfl⟩, kJ2, _, ea2, hk, fun j p' hj => ?_⟩
          by_cases hji : j = i
          · rw [hji, hp] at hj
            cases hj
            rw [if_pos (by omega)]
            exact .inl ⟨es, hu⟩
          · exact others (Kt.refl _ _) (fun _ _ => rfl) j p' hj hji
      · -- it is kept aside
        have es : stOf t2 p ≠ stOf x.t0 p := fun e => by
          rw [e, D1.same] at z
          exact z rfl
        refine ⟨_, rfl, _, rfl, x.c, A.c 27, dx, _, _, rfl, ec2, T.cl_Copy, T.n_Copy_aside, l_casd .., _, rfl, x.as_, _, rfl, DPut.k (k := Sum.inl p) ea2 (szL (by have := hk.len C.in9; omega)), ?_⟩
        have k3 : Kg (tL tp) (fun b => b = x.as_) G2 (upd G2 x.as_ (.dK (putK kvs (Sum.inl p) v))) := Kg.of (Kp.updD ea2 rfl)
        refine ⟨⟨_, _, rfl⟩, kJ2.trans k3 fun _ z => .inl z, _, upd_same, hk.put (List.mem_of_getElem? hp), fun j p' hj => ?_⟩
        by_cases hji : j = i
        · rw [hji, hp] at hj
          cases hj
          rw [if_pos (by omega)]
          exact .inr ⟨es, v, by rw [valV_put, if_pos rfl], hv'.kt k3.t⟩
        · exact others k3.t (fun p' np => by rw [valV_put, if_neg (fun z => np (Sum.inl.inj z))]) j p' hj hji
    · rintro σ J ⟨⟨o1, o2, rfl⟩, kJ, kvs, ea, hk, ho⟩
      refine k J ⟨⟨dx, kJ.t.ins ec nca⟩, kJ.t.lst C.wan nwa, C.nd, C.in9, kvs, ea, hk, fun p hp => ?_⟩ kJ
      obtain ⟨j, hj⟩ := List.getElem?_of_mem hp
      have := ho j p hj
      rw [if_pos (by rw [List.length_map]; exact (List.getElem?_eq_some_iff.mp hj).1)] at this
      exact this
/-! ### let_go -/
def Cp.less (x : Cp) (p : Int) : Cp := ⟨x.nm, x.c, x.wn, x.as_, x.num, x.want.erase p, x.t0⟩
theorem scCl9 : FnScope ["self", "page"] ["self", "page"] (defScope s_Copy_let_go) := ⟨rfl, rfl, rfl, by decide +kernel, rfl, by decide +kernel, by decide +kernel⟩
def spLetGo (A : Ad) : Sp := fun vs H Q _ => ∃ (x : Cp) (t : TT) (p : Int), vs = [.ref x.c, .int p] ∧ CpAt A H x t ∧ p ∈ x.want ∧
  ∀ G, CpAt A G (x.less p) t → Kp (fun b => b = x.wn ∨ b = x.as_) H G → Q .non G
theorem ok_let_go (T : Txt K mg A) : ∃ fd, FnOk P w K mg base CX0 1 (A.m 27 3) fd ["self", "page"] (spLetGo A) ∧ Binds K fd ["self", "page"] [] := by
  obtain ⟨fd, F⟩ := T.m_Copy_let_go.fn
  refine ⟨fd, F.ok scCl9 (fun vs H Q E h => ?_) (fun cdv Ar outer s H vs Q E hr h => ?_), F.binds fun _ _ _ _ _ _ us hl => match us, hl with | [_, _], _ => rfl⟩
  · obtain ⟨x, t, p, rfl, _⟩ := h
    rfl
  · obtain ⟨x, t, p, rfl, C, hp, k⟩ := h
    have hu := hu_of hr
    refine ⟨_, (pss_cons (ps_expr (pe_bm PySem.F.plainAttrs_list PySem.F.slot_list_remove PySem.F.type_list_remove mt_remove (pe_fld (pv 0) rfl) (pa_cons (pv 1) pa_nil)))
      (pss_one (ps_expr (pe_dpop2 (pe_fld (pv 0) rfl) (pv 1) pe_non ⟨rfl, rfl, rfl, rfl⟩)))), ?_⟩
    obtain ⟨dx, ec⟩ := C.at_
    obtain ⟨kvs, ea, hk, ho⟩ := C.asd
    obtain ⟨j, hj⟩ := List.getElem?_of_mem hp
    obtain ⟨ee, hfirst⟩ := erase_at C.nd hj
    have nwc : x.wn ≠ x.c := ne_of C.wan ec (by intro z; cases z)
    have naw : x.as_ ≠ x.wn := ne_of ea C.wan (by intro z; cases z)
    have nac : x.as_ ≠ x.c := ne_of ea ec (by intro z; cases z)
    refine ⟨_, rfl, x.c, A.c 27, dx, _, _, rfl, ec, T.cl_Copy, T.n_Copy_wanted, l_cwan .., .inl ⟨rfl, _, SqL.of C.wan⟩, _, rfl, x.wn, x.want, p, j, rfl, rfl, C.wan, hj, hfirst, ?_⟩
    rw [ee]
    have k1 : Kp (fun b => b = x.wn) H (upd H x.wn (.lst ((x.want.erase p).map V.int))) := Kp.updL C.wan rfl
    have e1 : upd H x.wn (.lst ((x.want.erase p).map V.int)) x.wn = some (.lst ((x.want.erase p).map V.int)) := upd_same
    generalize upd H x.wn (.lst ((x.want.erase p).map V.int)) = H1 at k1 e1 ⊢
    have ec1 := k1.t.ins ec nwc.symm
    have ea1 := k1.t.dK ea naw
    have sub : ∀ {q : Int}, q ∈ x.want.erase p → q ∈ x.want ∧ q ≠ p := fun {q} h => ⟨List.mem_of_mem_erase h, fun e => (List.Nodup.not_mem_erase C.nd) (by rw [e] at h; exact h)⟩
    have fin : ∀ (G : Hp) (kv' : List (Key × V)), Kp (fun b => b = x.as_) H1 G → G x.as_ = some (.dK kv') → AsK kv' x.want → valV kv' (.inl p : Key) = none → (∀ q : Int, q ≠ p → valV kv' (.inl q : Key) = valV kvs (.inl q : Key)) → Q .non G := fun G kv' kG eG hk' hno hoth => by
      refine k G ⟨⟨dx, kG.t.ins ec1 nac.symm⟩, kG.t.lst e1 naw.symm, C.nd.erase p, fun q hq => C.in9 q (sub hq).1, kv', eG, ?_, fun q hq => ?_⟩ ((k1.sub fun _ z => .inl z).trans kG fun _ z => .inl (.inr z))
      · obtain ⟨ks, e, nd, r⟩ := hk'
        refine ⟨ks, e, nd, fun q hq => List.mem_erase_of_ne (fun z => ?_) |>.mpr (r q hq)⟩
        have h1 : (valV kv' (.inl q : Key)).isSome = true := val_mem.mpr (by rw [e]; exact List.mem_map.mpr ⟨q, hq, rfl⟩)
        rw [z, hno] at h1
        cases h1
      · obtain ⟨q1, q2⟩ := sub hq
        rcases ((ho q q1).kt k1.t).kt kG.t with ⟨r1, r2⟩ | ⟨r1, u, r2, r3⟩
        · exact .inl ⟨r1, by rw [hoth q q2]; exact r2⟩
        · exact .inr ⟨r1, u, by rw [hoth q q2]; exact r2, r3⟩
    refine ⟨_, rfl, x.c, A.c 27, dx, _, _, rfl, ec1, T.cl_Copy, T.n_Copy_aside, l_casd .., x.as_, rfl, .inl ⟨kvs, .inl ea1⟩, _, rfl, kvs, Sum.inl p, ea1, rfl, fun u hu => ?_, fun hu => ?_⟩
    · exact fin _ _ (Kp.updD ea1 rfl) upd_same (hk.del p) (by rw [valV_drop, if_pos rfl]) fun q hq => by rw [valV_drop, if_neg (fun z => hq (Sum.inl.inj z))]
    · exact fin _ _ (Kp.refl _ _) ea1 hk hu fun _ _ => rfl
end
end S02

set_option Elab.async false
set_option linter.all false
set_option maxRecDepth 100000
set_option maxHeartbeats 4000000
/-! ### the shelf -/
namespace S02
open PySem PySem.Spec PyProof.Rows L2 K5 SupX GenX
def hfl (n : Int) (c : Addr) : List (Str × V) := [("begun", .int n), ("copies", .ref c)]
theorem l_copies (n : Int) (c : Addr) : (hfl n c).lookup ("copies" : Str) = some (.ref c) := rfl
theorem l_begun (n : Int) (c : Addr) : (hfl n c).lookup ("begun" : Str) = some (.int n) := rfl
def csK (cs : List Cp) : List (Key × V) := cs.map fun x => ((.inl x.nm : Key), V.ref x.c)
theorem csK_none {cs : List Cp} {k : Int} (h : ∀ x ∈ cs, x.nm ≠ k) : valV (csK cs) (.inl k : Key) = none := by
  cases e : valV (csK cs) (.inl k : Key) with
  | none => rfl
  | some v =>
    have h1 := val_mem.mp (show (valV (csK cs) (.inl k : Key)).isSome = true by rw [e]; rfl)
    obtain ⟨p, hp, q⟩ := List.mem_map.mp h1
    obtain ⟨x, hx, rfl⟩ := List.mem_map.mp hp
    exact absurd (Sum.inl.inj q) (h x hx)
theorem valV_cons (k0 k : Key) (v0 : V) (r : List (Key × V)) : valV ((k0, v0) :: r) k = if k0 = k then some v0 else valV r k := by
  unfold valV
  rw [List.find?_cons]
  by_cases h : k0 = k
  · rw [decide_eq_true h, if_pos h]
    rfl
  · rw [decide_eq_false h, if_neg h]
theorem csK_some : ∀ {cs : List Cp} {x : Cp}, (cs.map Cp.nm).Nodup → x ∈ cs → valV (csK cs) (.inl x.nm : Key) = some (.ref x.c)
  | [], _, _, h => by cases h
  | y :: cs, x, nd, h => by
    obtain ⟨n1, nd2⟩ := List.nodup_cons.mp nd
    show valV (((.inl y.nm : Key), V.ref y.c) :: csK cs) (.inl x.nm : Key) = _
    rw [valV_cons]
    rcases List.mem_cons.mp h with e | e
    · rw [e, if_pos rfl]
    · have ne : y.nm ≠ x.nm := fun z => n1 (by rw [z]; exact List.mem_map.mpr ⟨x, e, rfl⟩)
      rw [if_neg (fun z => ne (Sum.inl.inj z))]
      exact csK_some nd2 e
theorem csK_find {cs : List Cp} {k : Int} {v : V} (h : valV (csK cs) (.inl k : Key) = some v) (nd : (cs.map Cp.nm).Nodup) : ∃ x ∈ cs, x.nm = k ∧ v = .ref x.c := by
  have h1 := val_mem.mp (show (valV (csK cs) (.inl k : Key)).isSome = true by rw [h]; rfl)
  obtain ⟨p, hp, q⟩ := List.mem_map.mp h1
  obtain ⟨x, hx, rfl⟩ := List.mem_map.mp hp
  have e : x.nm = k := Sum.inl.inj q
  have h2 := csK_some nd hx
  rw [e, h] at h2
  exact ⟨x, hx, e, Option.some.inj h2⟩
theorem csK_put {cs : List Cp} {k : Int} {v : V} (h : ∀ x ∈ cs, x.nm ≠ k) : putK (csK cs) (.inl k : Key) v = csK cs ++ [(.inl k, v)] := by
  unfold putK
  rw [valV_any, csK_none h]
  rfl
theorem csK_drop (cs : List Cp) (k : Int) : dropK (csK cs) (.inl k : Key) = csK (cs.filter fun x => decide (x.nm ≠ k)) := by
  unfold csK dropK
  induction cs with
  | nil => rfl
  | cons x cs ih =>
    rw [List.map_cons, List.filter_cons, List.filter_cons, ih]
    by_cases h : x.nm = k
    · rw [if_neg (by simp [h]), if_neg (by simp [h])]
    · rw [if_pos (by simp [h]), if_pos (by simp [h]), List.map_cons]
structure ShAt (A : Ad) (H : Hp) (f c : Addr) (bg : Int) (cs : List Cp) (t : TT) : Prop where
  at_ : ∃ dx, H f = some (.ins (A.c 28) dx (hfl bg c))
  dic : H c = some (.dK (csK cs))
  each : ∀ x ∈ cs, CpAt A H x t
  nms : (cs.map Cp.nm).Nodup
  bgs : ∀ x ∈ cs, 0 ≤ x.nm ∧ x.nm < bg
  few : cs.length ≤ 10000
  apart : ∀ x ∈ cs, ∀ y ∈ cs, ∀ b, cF x b → cF y b → x = y
  asc : ∀ x ∈ cs, x.as_ ≠ c
  bg0 : 0 ≤ bg
/-- all that the copies have -/
def csF (cs : List Cp) : Addr → Prop := fun b => ∃ x ∈ cs, cF x b
theorem ShAt.kt {A : Ad} {F : Addr → Prop} {H G : Hp} (k : Kt F H G) {f c : Addr} {bg : Int} {cs : List Cp} {t : TT} (S : ShAt A H f c bg cs t) (n1 : ¬ F f) (n2 : ¬ F c) (n3 : ∀ b, F b → ¬ csF cs b) : ShAt A G f c bg cs t := by
  obtain ⟨dx, e⟩ := S.at_
  exact ⟨⟨dx, k.ins e n1⟩, k.dK S.dic n2, fun x hx => (S.each x hx).kt k fun b z y => n3 b z ⟨x, hx, y⟩, S.nms, S.bgs, S.few, S.apart, S.asc, S.bg0⟩
theorem ShAt.there {A : Ad} {H : Hp} {f c : Addr} {bg : Int} {cs : List Cp} {t : TT} (S : ShAt A H f c bg cs t) {b : Addr} (z : csF cs b) : ∃ o, H b = some o := by
  obtain ⟨x, hx, y⟩ := z
  exact (S.each x hx).there y
theorem fld_ne' {H : Hp} {C C2 dx dx2 a b : Addr} {fs gs : List (Str × V)} (h1 : H a = some (.ins C dx fs)) (h2 : H b = some (.ins C2 dx2 gs)) (n : fs ≠ gs) : a ≠ b := fun z => by
  rw [z, h2] at h1
  injection (Option.some.inj h1) with _ _ h3
  exact n h3.symm
/-! what stays where a thing is unlocked -/
def Kz (H G : Hp) : Prop := ∀ b o, H b = some o → (∀ od u, o ≠ .frz od u) → G b = some o
theorem Kz.of {H : Hp} {c : Addr} {od : _} {u o' : HO} (h : H c = some (.frz od u)) : Kz H (upd H c o') := fun b o e n => by
  by_cases z : b = c
  · rw [z, h] at e
    cases e
    exact absurd rfl (n _ _)
  · rw [upd_ne z]; exact e
theorem StV.kz {H G : Hp} (k : Kz H G) {v : V} : ∀ {s : Pst}, StV H v s → StV G v s
  | .rows _, ⟨b, e, xs, h, p⟩ => ⟨b, e, xs, k _ _ h (fun _ _ z => by cases z), p.mono fun _ _ ⟨t, e, q⟩ => ⟨t, e, k _ _ q (fun _ _ z => by cases z)⟩⟩
  | .hands _ _, ⟨b, c, e, h1, xs, h2, p⟩ => ⟨b, c, e, k _ _ h1 (fun _ _ z => by cases z), xs, k _ _ h2 (fun _ _ z => by cases z), p.mono fun _ _ ⟨t, e, q⟩ => ⟨t, e, k _ _ q (fun _ _ z => by cases z)⟩⟩
theorem CpAt.kz {A : Ad} {H G : Hp} (k : Kz H G) {x : Cp} {t : TT} (h : CpAt A H x t) : CpAt A G x t := by
  obtain ⟨dx, e⟩ := h.at_
  obtain ⟨kvs, e2, hk, ho⟩ := h.asd
  refine ⟨⟨dx, k _ _ e (fun _ _ z => by cases z)⟩, k _ _ h.wan (fun _ _ z => by cases z), h.nd, h.in9, kvs, k _ _ e2 (fun _ _ z => by cases z), hk, fun p hp => ?_⟩
  rcases ho p hp with q | ⟨q1, v, q2, q3⟩
  · exact .inl q
  · exact .inr ⟨q1, v, q2, q3.kz k⟩
section
variable {P : Program} {w : World} {K : PySem.W.Frag} {mg : Str → Option Value} {base : Heap} {A : Ad} {tp : Nat → Addr}
theorem scHi : FnScope ["self"] ["self"] (defScope s_Shelf___init__) := ⟨rfl, rfl, rfl, by decide +kernel, rfl, by decide +kernel, by decide +kernel⟩
def spHInit (A : Ad) : Sp := fun vs H Q _ => ∃ (f dx : Addr) (t : TT), vs = [.ref f] ∧ H f = some (.ins (A.c 28) dx []) ∧ ∀ G c, H c = none → ShAt A G f c 0 [] t → Kp (fun b => b = f) H G → Q .non G
theorem ok_hinit (T : Txt K mg A) : ∃ fd, FnOk P w K mg base CX0 1 (A.m 28 0) fd ["self"] (spHInit A) ∧ Binds K fd ["self"] [] := by
  obtain ⟨fd, F⟩ := T.m_Shelf___init__.fn
  refine ⟨fd, F.ok scHi (fun vs H Q E h => ?_) (fun cdv Ar outer s H vs Q E hr h => ?_), F.binds fun _ _ _ _ _ _ us hl => match us, hl with | [_], _ => rfl⟩
  · obtain ⟨f, dx, t, rfl, _⟩ := h
    rfl
  · obtain ⟨f, dx, t, rfl, ef, k⟩ := h
    refine ⟨_, (pss_cons (ps_fld (pv 0) pe_int rfl)
      (pss_one (ps_fld (pv 0) pe_dnewK rfl))), ?_⟩
    refine ⟨_, rfl, f, A.c 28, dx, _, rfl, ef, T.cl_Shelf, T.n_Shelf_begun, by show 0 < 1000; decide, ?_⟩
    have k1 : Kp (fun b => b = f) H (upd H f (.ins (A.c 28) dx [("begun", .int 0)])) := Kp.updI ef rfl
    have e1 : upd H f (.ins (A.c 28) dx [("begun", .int 0)]) f = some (.ins (A.c 28) dx [("begun", .int 0)]) := upd_same
    rw [show putF "begun" (V.int 0) [] = ([("begun", V.int 0)] : List (Str × V)) from rfl]
    generalize upd H f (.ins (A.c 28) dx [("begun", .int 0)]) = H1 at k1 e1 ⊢
    refine fun c nc => ⟨_, rfl, f, A.c 28, dx, _, rfl, (upd_ne (ne_of_none e1 nc)).trans e1, T.cl_Shelf, T.n_Shelf_copies, by show 1 < 1000; decide, ?_⟩
    have k2 : Kp (fun b => b = f) H1 (upd (upd H1 c (.dK [])) f (.ins (A.c 28) dx (hfl 0 c))) := (Kp.new nc).andI ((upd_ne (ne_of_none e1 nc)).trans e1) rfl
    exact k _ c (k1.free nc fun z => by rw [show c = f from z, e1] at nc; cases nc) ⟨⟨dx, upd_same⟩, (by rw [upd_ne (ne_of_none e1 nc).symm, upd_same]; rfl), (fun _ z => by cases z), .nil, (fun _ z => by cases z), Nat.zero_le _, (fun _ z => by cases z), (fun _ z => by cases z), Int.le_refl _⟩ (k1.trans k2 fun b z => .inl z)
/-! ### follow, with copies -/
theorem scHf : FnScope ["self", "old", "new", "found"] ["self", "old", "new"] (defScope s_Shelf_follow) := ⟨rfl, rfl, rfl, by decide +kernel, rfl, by decide +kernel, by decide +kernel⟩
def spFollow (A : Ad) (tp : Nat → Addr) : Sp := fun vs H Q _ => ∃ (f c : Addr) (bg : Int) (cs : List Cp) (a r h g : Addr) (t : TT) (n : Nat) (a2 r2 h2 g2 : Addr) (t2 : TT) (n2 : Nat), vs = [.ref f, .ref a, .ref a2] ∧ ShAt A H f c bg cs t ∧ TabAt A H a r h g t n ∧ TabAt A H a2 r2 h2 g2 t2 n2 ∧
  (∀ b, b = c ∨ csF cs b → ¬ tF a r h g b) ∧ (∀ b, b = c ∨ csF cs b → ¬ tF a2 r2 h2 g2 b) ∧ Tg (tL tp) H ∧
  ∀ G, ShAt A G f c bg cs t2 → Kg (tL tp) (csF cs) H G → Q .non G
theorem ok_follow (T : Txt K mg A) (TB : TbsB base mg A tp) : ∃ fd, FnOk P w K mg base CX0 10 (A.m 28 5) fd ["self", "old", "new"] (spFollow A tp) ∧ Binds K fd ["self", "old", "new"] [] := by
  obtain ⟨fd, F⟩ := T.m_Shelf_follow.fn
  obtain ⟨fdC, Gcf, bcf⟩ := ok_cfollow (P := P) (w := w) (base := base) T TB
  refine ⟨fd, F.ok scHf (fun vs H Q E h => ?_) (fun cdv Ar outer s H vs Q E hr h => ?_), F.binds fun _ _ _ _ _ _ us hl => match us, hl with | [_, _, _], _ => rfl⟩
  · obtain ⟨f, c, bg, cs, a, r, h, g, t, n, a2, r2, h2, g2, t2, n2, rfl, _⟩ := h
    rfl
  · obtain ⟨f, c, bg, cs, a, r, h, g, t, n, a2, r2, h2, g2, t2, n2, rfl, S, TA, TA2, na, na2, TG, k⟩ := h
    have hu := hu_of hr
    refine ⟨_, pss_one (ps_lock (ps_for PassesOwn.never rfl (pi_values (pe_fld (pv 0) rfl)) (pg_name (i := 3) scHf.nd rfl (Or.inl rfl)) (pss_one (ps_expr (pe_meth (pv 3) T.cl_Copy T.m_Copy_follow.me Gcf hr bcf .nil pass0 (pa_cons (pv 1) (pa_cons (pv 2) pa_nil))))))), ?_⟩
    obtain ⟨dx, ef⟩ := S.at_
    have ec := S.dic
    have nfc : f ≠ c := ne_of ef ec (by intro z; cases z)
    refine ⟨c, _, ec, trivial, fun od => ?_⟩
    have e1 : upd H c (.frz od (.dK (csK cs))) c = some (.frz od (.dK (csK cs))) := upd_same
    have k1 : Kp (fun b => b = c) H (upd H c (.frz od (.dK (csK cs)))) := fun b o e n => by
      by_cases z : b = c
      · rw [z, ec] at e
        cases e
        exact absurd z (n trivial)
      · rw [upd_ne z]; exact e
    have back : ∀ G : Hp, Kg (tL tp) (csF cs) (upd H c (.frz od (.dK (csK cs)))) G → Kg (tL tp) (csF cs) H (upd G c (.dK (csK cs))) := fun G kG => by
      refine ⟨fun b o e nn => ?_, fun P m hT => ?_⟩
      · by_cases z : b = c
        · rw [z, ec] at e
          cases e
          rw [z]
          exact .inr upd_same
        · rcases kG.st b o (by rw [upd_ne z]; exact e) nn with ⟨m, h, qs, h3⟩ | h3
          · exact .inl ⟨m, h, qs, by rw [upd_ne z]; exact h3⟩
          · exact .inr (by rw [upd_ne z]; exact h3)
      · obtain ⟨ps, e, tri⟩ := hT
        have z : P ≠ c := ne_of e ec (by intro z; cases z)
        obtain ⟨qs, e', tri'⟩ := kG.tb P m ⟨ps, by rw [upd_ne z]; exact e, tri⟩
        exact ⟨qs, by rw [upd_ne z]; exact e', tri'⟩
    generalize upd H c (.frz od (.dK (csK cs))) = H1 at k1 e1 back ⊢
    refine ⟨_, rfl, f, A.c 28, dx, _, _, rfl, k1.t.ins ef nfc, T.cl_Shelf, T.n_Shelf_copies, l_copies .., c, od, csK cs, rfl, e1, for_it (walk_values (d := c) (o := od) (kvs := csK cs)) (fun i σ J => (∃ o, σ = [some (.ref f), some (.ref a), some (.ref a2), o]) ∧ Kg (tL tp) (csF cs) H1 J ∧ J c = some (.frz od (.dK (csK cs))) ∧ ∀ j x, cs[j]? = some x → CpAt A J x (if j < i then t2 else t)) ?_ (fun i σ J _ e => e.2.2.1) ?_ ?_⟩
    · have ncF : ∀ x ∈ cs, ∀ b, b = c → ¬ cF x b := fun x hx b z y => by
        obtain ⟨dxx, exx⟩ := (S.each x hx).at_
        rw [show b = c from z] at y
        rcases y with y | y | y
        · rw [y, exx] at ec; cases ec
        · rw [y, (S.each x hx).wan] at ec; cases ec
        · exact S.asc x hx y.symm
      refine ⟨⟨_, rfl⟩, Kg.refl _ _ _, e1, fun j x hj => ?_⟩
      rw [if_neg (Nat.not_lt_zero j)]
      exact (S.each x (List.mem_of_getElem? hj)).kt k1.t (ncF x (List.mem_of_getElem? hj))
    · rintro i y σ J J' hi ⟨⟨o, rfl⟩, kJ, hJ, hC⟩ ⟨rfl, kk, hkk⟩
      obtain ⟨x0, hx0, e0⟩ : ∃ x0, cs[i]? = some x0 ∧ ((.inl x0.nm : Key), V.ref x0.c) = (kk, y) := by
        unfold csK at hkk
        rw [List.getElem?_map] at hkk
        cases e : cs[i]? with
        | none => rw [e] at hkk; cases hkk
        | some x0 => rw [e] at hkk; exact ⟨x0, rfl, Option.some.inj hkk⟩
      obtain ⟨rfl, rfl⟩ := Prod.mk.inj e0
      have hm := List.mem_of_getElem? hx0
      have C0 := hC i x0 hx0
      rw [if_neg (Nat.lt_irrefl i)] at C0
      obtain ⟨dxc, exc⟩ := C0.at_
      have TJ := (TA.kt k1.t fun b z => na b (.inl z)).kt kJ.t fun b z => na b (.inr z)
      have TJ2 := (TA2.kt k1.t fun b z => na2 b (.inl z)).kt kJ.t fun b z => na2 b (.inr z)
      refine ⟨_, rfl, x0.c, dxc, _, rfl, exc, rfl, _, rfl, _, rfl, x0, a, r, h, g, t, n, a2, r2, h2, g2, t2, n2, rfl, C0, TJ, TJ2, na _ (.inr ⟨x0, hm, .inr (.inr rfl)⟩), na2 _ (.inr ⟨x0, hm, .inr (.inr rfl)⟩), (TG.kp k1).kg kJ, fun G CG kG => ?_⟩
      refine ⟨⟨_, rfl⟩, kJ.trans kG (fun b z => .inl ⟨x0, hm, .inr (.inr z)⟩), kG.t c _ hJ (fun _ z => by cases z) (fun m => False.elim m), fun j x hj => ?_⟩
      by_cases z : j = i
      · rw [z, hx0] at hj
        cases hj
        rw [z, if_pos (Nat.lt_succ_self i)]
        exact CG
      · rw [show (if j < i + 1 then t2 else t) = (if j < i then t2 else t) by
          by_cases y : j < i
          · rw [if_pos y, if_pos (by omega)]
          · rw [if_neg y, if_neg (by omega)]]
        refine (hC j x hj).kt kG.t fun b q y => z ?_
        have e := S.apart x (List.mem_of_getElem? hj) x0 hm b y (.inr (.inr q))
        rw [e] at hj
        have nd : cs.Nodup := by
          have := S.nms
          exact (List.pairwise_map.mp this).imp fun h e => h (by rw [e])
        exact (List.getElem?_inj (List.getElem?_eq_some_iff.mp hj).1 nd).mp (hj.trans hx0.symm)
    · rintro σ J ⟨⟨o, rfl⟩, kJ, hJ, hC⟩
      have nfF : ¬ csF cs f := fun ⟨x, hx, y⟩ => by
        obtain ⟨dxx, exx⟩ := (S.each x hx).at_
        obtain ⟨kvs, eas, _⟩ := (S.each x hx).asd
        rcases y with y | y | y
        · exact fld_ne' ef exx (by intro z; cases z) y
        · rw [y, (S.each x hx).wan] at ef; cases ef
        · rw [y, eas] at ef; cases ef
      refine ⟨hJ, k _ ⟨⟨dx, by rw [upd_ne nfc]; exact kJ.t.ins (k1.t.ins ef nfc) nfF⟩, upd_same, fun x hx => ?_, S.nms, S.bgs, S.few, S.apart, S.asc, S.bg0⟩ (back J kJ)⟩
      obtain ⟨j, hj⟩ := List.getElem?_of_mem hx
      have := hC j x hj
      rw [if_pos (by unfold csK; rw [List.length_map]; exact (List.getElem?_eq_some_iff.mp hj).1)] at this
      exact this.kz (Kz.of hJ)
end
end S02

set_option Elab.async false
set_option linter.all false
set_option maxRecDepth 100000
set_option maxHeartbeats 4000000
/-! ### the lead -/
namespace S02
open PySem PySem.Spec PyProof.Rows L2 K5 SupX GenX
/-- what a lead has -/
structure La where
  st : Addr
  d : Addr
  ls : Addr
  lu : Addr
  r : Addr
  tb : Addr
  rw : Addr
  hd : Addr
  gn : Addr
  en : Addr
  sh : Addr
  cp : Addr
  fo : Addr
  bg : Int
  cs : List Cp
def lfl (st : Addr) (hs : Int) (tb en sh fo : Addr) : List (Str × V) := [("store", .ref st), ("houses", .int hs), ("table", .ref tb), ("entries", .ref en), ("shelf", .ref sh), ("followers", .ref fo)]
section
variable (st tb en sh fo x : Addr) (hs : Int)
theorem l_store : (lfl st hs tb en sh fo).lookup ("store" : Str) = some (.ref st) := rfl
theorem l_table : (lfl st hs tb en sh fo).lookup ("table" : Str) = some (.ref tb) := rfl
theorem l_entries : (lfl st hs tb en sh fo).lookup ("entries" : Str) = some (.ref en) := rfl
theorem l_shelf : (lfl st hs tb en sh fo).lookup ("shelf" : Str) = some (.ref sh) := rfl
theorem p_table : putF "table" (.ref x) (lfl st hs tb en sh fo) = lfl st hs x en sh fo := rfl
theorem p_entries : putF "entries" (.ref x) (lfl st hs tb en sh fo) = lfl st hs tb x sh fo := rfl
end
/-- all of it but the copies -/
def lF0 (l : Addr) (a : La) : Addr → Prop := fun b => b = l ∨ sF a.st a.d a.ls a.lu b ∨ tF a.tb a.rw a.hd a.gn b ∨ b = a.en ∨ b = a.sh ∨ b = a.cp
structure LeadAt (A : Ad) (K : PySem.W.Frag) (H : Hp) (l : Addr) (a : La) (t : TT) (n : Nat) (m : M) : Prop where
  at_ : ∃ dx hs, H l = some (.ins (A.c 55) dx (lfl a.st hs a.tb a.en a.sh a.fo))
  sto : StAt A H a.st a.d a.ls a.lu a.r m
  rt : ∃ num, RtAt K H a.r num
  r0 : m.sure[0]? = some (.ref a.r)
  tab : TabAt A H a.tb a.rw a.hd a.gn t n
  ent : ∃ es, H a.en = some (.lst es) ∧ es.length ≤ 16
  shf : ShAt A H a.sh a.cp a.bg a.cs t
  n1 : a.en ≠ a.ls
  n2 : a.en ≠ a.lu
  n3 : ¬ tF a.tb a.rw a.hd a.gn a.cp
  ap : ∀ b, csF a.cs b → ¬ lF0 l a b
def lF (l : Addr) (a : La) : Addr → Prop := fun b => b = l ∨ sF a.st a.d a.ls a.lu b ∨ tF a.tb a.rw a.hd a.gn b ∨ b = a.en ∨ b = a.sh ∨ b = a.cp ∨ csF a.cs b
theorem LeadAt.kt {A : Ad} {K : PySem.W.Frag} {F : Addr → Prop} {H G : Hp} {l : Addr} {a : La} {t : TT} {n : Nat} {m : M} (k : Kt F H G) (L : LeadAt A K H l a t n m) (nf : ∀ b, F b → ¬ lF l a b) : LeadAt A K G l a t n m := by
  obtain ⟨dx, hs, e⟩ := L.at_
  obtain ⟨num, R⟩ := L.rt
  obtain ⟨es, ee, el⟩ := L.ent
  exact ⟨⟨dx, hs, k.ins e fun z => nf _ z (.inl rfl)⟩, L.sto.kt k fun b z y => nf b z (.inr (.inl y)), ⟨num, R.kt k⟩, L.r0, L.tab.kt k fun b z y => nf b z (.inr (.inr (.inl y))), ⟨es, k.lst ee fun z => nf _ z (.inr (.inr (.inr (.inl rfl)))), el⟩, L.shf.kt k (fun z => nf _ z (.inr (.inr (.inr (.inr (.inl rfl)))))) (fun z => nf _ z (.inr (.inr (.inr (.inr (.inr (.inl rfl))))))) (fun b z y => nf b z (.inr (.inr (.inr (.inr (.inr (.inr y))))))), L.n1, L.n2, L.n3, L.ap⟩
theorem LeadAt.there {A : Ad} {K : PySem.W.Frag} {H : Hp} {l : Addr} {a : La} {t : TT} {n : Nat} {m : M} (L : LeadAt A K H l a t n m) {b : Addr} (z : lF l a b) : ∃ o, H b = some o := by
  obtain ⟨dx, hs, e⟩ := L.at_
  obtain ⟨es, ee, el⟩ := L.ent
  obtain ⟨dx2, e2⟩ := L.sto.at_
  obtain ⟨ddx, tp, st, ed, _⟩ := L.sto.dk.ex
  obtain ⟨rs, h3, _⟩ := L.sto.dk.uns
  obtain ⟨dx4, e4⟩ := L.shf.at_
  rcases z with z | (z | z | z | z) | z | z | z | z | z
  · exact ⟨_, z ▸ e⟩
  · exact ⟨_, z ▸ e2⟩
  · exact ⟨_, z ▸ ed⟩
  · exact ⟨_, z ▸ L.sto.dk.sure⟩
  · exact ⟨_, z ▸ h3⟩
  · exact L.tab.there z
  · exact ⟨_, z ▸ ee⟩
  · exact ⟨_, z ▸ e4⟩
  · exact ⟨_, z ▸ L.shf.dic⟩
  · exact L.shf.there z
/-! what is of other kinds is elsewhere -/
theorem fld_ne {H : Hp} {C C2 dx dx2 a b : Addr} {fs gs : List (Str × V)} (h1 : H a = some (.ins C dx fs)) (h2 : H b = some (.ins C2 dx2 gs)) (n : fs ≠ gs) : a ≠ b := fun z => by
  rw [z, h2] at h1
  injection (Option.some.inj h1) with _ _ h3
  exact n h3.symm
theorem tab_sto {A : Ad} {H : Hp} {s d ls lu r a rw hd gn : Addr} {m : M} {t : TT} {n : Nat} (S : StAt A H s d ls lu r m) (T : TabAt A H a rw hd gn t n) : ∀ b, sF s d ls lu b → ¬ tF a rw hd gn b := by
  obtain ⟨dx2, e2⟩ := S.at_
  obtain ⟨ddx, tp, st, ed, _⟩ := S.dk.ex
  obtain ⟨rs, h3, _⟩ := S.dk.uns
  have h2 := S.dk.sure
  obtain ⟨dx, e⟩ := T.at_
  obtain ⟨_, q1⟩ := T.rows.dc
  obtain ⟨_, q2⟩ := T.hands.dc
  obtain ⟨_, q3⟩ := T.gone.dc
  intro b z y
  rcases z with z | z | z | z <;> rcases y with y | y | y | y <;> rw [z] at y
  · exact fld_ne e2 e (by intro z; cases z) y
  · exact ne_of e2 q1 (by intro z; cases z) y
  · exact ne_of e2 q2 (by intro z; cases z) y
  · exact ne_of e2 q3 (by intro z; cases z) y
  · exact fld_ne ed e (by intro z; cases z) y
  · exact ne_of ed q1 (by intro z; cases z) y
  · exact ne_of ed q2 (by intro z; cases z) y
  · exact ne_of ed q3 (by intro z; cases z) y
  · exact ne_of h2 e (by intro z; cases z) y
  · exact ne_of h2 q1 (by intro z; cases z) y
  · exact ne_of h2 q2 (by intro z; cases z) y
  · exact ne_of h2 q3 (by intro z; cases z) y
  · exact ne_of h3 e (by intro z; cases z) y
  · exact ne_of h3 q1 (by intro z; cases z) y
  · exact ne_of h3 q2 (by intro z; cases z) y
  · exact ne_of h3 q3 (by intro z; cases z) y
theorem tab_ins {A : Ad} {H : Hp} {a rw hd gn x C dx : Addr} {fs : List (Str × V)} {t : TT} {n : Nat} (h : H x = some (.ins C dx fs)) (hf : ∀ nu mo r h, fs ≠ tfl nu mo r h) (T : TabAt A H a rw hd gn t n) : ¬ tF a rw hd gn x := by
  obtain ⟨dx, e⟩ := T.at_
  obtain ⟨_, q1⟩ := T.rows.dc
  obtain ⟨_, q2⟩ := T.hands.dc
  obtain ⟨_, q3⟩ := T.gone.dc
  rintro (y | y | y | y)
  · exact fld_ne h e (hf _ _ _ _) y
  · exact ne_of h q1 (by intro z; cases z) y
  · exact ne_of h q2 (by intro z; cases z) y
  · exact ne_of h q3 (by intro z; cases z) y
theorem sto_ins {A : Ad} {H : Hp} {s d ls lu r x C dx : Addr} {fs : List (Str × V)} {m : M} (h : H x = some (.ins C dx fs)) (h1 : ∀ d st r, fs ≠ sfl d st r) (h2 : ∀ ls lu lf tp rn st, fs ≠ dfl ls lu lf tp rn st) (S : StAt A H s d ls lu r m) : ¬ sF s d ls lu x := by
  obtain ⟨dx2, e2⟩ := S.at_
  obtain ⟨ddx, tp, st, ed, _⟩ := S.dk.ex
  obtain ⟨rs, h3, _⟩ := S.dk.uns
  rintro (y | y | y | y)
  · exact fld_ne h e2 (h1 _ _ _) y
  · exact fld_ne h ed (h2 _ _ _ _ _ _) y
  · exact ne_of h S.dk.sure (by intro z; cases z) y
  · exact ne_of h h3 (by intro z; cases z) y
theorem sto_dK {A : Ad} {H : Hp} {s d ls lu r x : Addr} {kvs : List (Key × V)} {m : M} (h : H x = some (.dK kvs)) (S : StAt A H s d ls lu r m) : ¬ sF s d ls lu x := by
  obtain ⟨dx2, e2⟩ := S.at_
  obtain ⟨ddx, tp, st, ed, _⟩ := S.dk.ex
  obtain ⟨rs, h3, _⟩ := S.dk.uns
  rintro (y | y | y | y)
  · exact ne_of h e2 (by intro z; cases z) y
  · exact ne_of h ed (by intro z; cases z) y
  · exact ne_of h S.dk.sure (by intro z; cases z) y
  · exact ne_of h h3 (by intro z; cases z) y
section
variable {P : Program} {w : World} {K : PySem.W.Frag} {mg : Str → Option Value} {base : Heap} {A : Ad} {tp : Nat → Addr} {nr pl : Addr}
/-! ### change_over -/
theorem scCo : FnScope ["self", "trial", "pages", "entries"] ["self", "trial", "pages", "entries"] (defScope s_Lead_change_over) := ⟨rfl, rfl, rfl, by decide +kernel, rfl, by decide +kernel, by decide +kernel⟩
/-- behind a change: the same lead, its parts as before or new -/
def LdQ (A : Ad) (K : PySem.W.Frag) (tp : Nat → Addr) (H : Hp) (l : Addr) (a : La) (t : TT) (n : Nat) (e : Int) (Q : Hp → Prop) : Prop := ∀ G a' m', LeadAt A K G l a' t n m' → Enough m' e → a'.d = a.d → (∀ b, lF l a' b → lF l a b ∨ H b = none) → Kg (tL tp) (lF l a) H G → (a'.cs = a.cs ∧ a'.bg = a.bg ∧ a'.sh = a.sh) → Q G
def spChange (A : Ad) (K : PySem.W.Frag) (tp : Nat → Addr) : Sp := fun vs H Q _ => ∃ (l : Addr) (a : La) (t : TT) (n : Nat) (m : M) (tb rw hd gn : Addr) (t' : TT) (n' : Nat) (lp le : Addr) (ps es : List V) (e : Int), vs = [.ref l, .ref tb, .ref lp, .ref le] ∧ LeadAt A K H l a t n m ∧ TabAt A H tb rw hd gn t' n' ∧ Tg (tL tp) H ∧
  H lp = some (.lst ps) ∧ (∀ v ∈ ps, PcV H v) ∧ ps.length ≤ 9 ∧ H le = some (.lst es) ∧ (∀ v ∈ es, EnV H v) ∧ es.length ≤ 4 ∧ Enough m (e + 16) ∧ 0 ≤ e ∧ ¬ lF l a lp ∧ ¬ lF l a le ∧ (∀ b, tF tb rw hd gn b → ¬ lF l a b) ∧
  ∀ G a' m', LeadAt A K G l a' t' n' m' → Enough m' e → a'.d = a.d → a'.tb = tb → (∀ b, lF l a' b → lF l a b ∨ tF tb rw hd gn b ∨ H b = none) → Kg (tL tp) (lF l a) H G → a'.cs = a.cs → a'.bg = a.bg → a'.sh = a.sh → Q .non G
theorem ok_change_over (T : Txt K mg A) (TB9 : TbsB base mg A tp) : ∃ fd, FnOk P w K mg base CX0 11 (A.m 55 19) fd ["self", "trial", "pages", "entries"] (spChange A K tp) ∧ Binds K fd ["self", "trial", "pages", "entries"] [] := by
  obtain ⟨fd, F⟩ := T.m_Lead_change_over.fn
  obtain ⟨fd1, G_Store_put, b_Store_put⟩ := ok_put (P := P) (w := w) (base := base) T
  obtain ⟨fd2, G_Shelf_follow, b_Shelf_follow⟩ := ok_follow (P := P) (w := w) (base := base) T TB9
  refine ⟨fd, F.ok scCo (fun vs H Q E h => ?_) (fun cdv Ar outer s H vs Q E hr h => ?_), F.binds fun _ _ _ _ _ _ us hl => match us, hl with | [_, _, _, _], _ => rfl⟩
  · obtain ⟨l, a, t, n, m, tb, rw, hd, gn, t', n', lp, le, ps, es, e, rfl, _⟩ := h
    rfl
  · obtain ⟨l, a, t, n, m, tb, rw, hd, gn, t', n', lp, le, ps, es, e, rfl, L, TB, TG, hlp, hps, lps, hle, hes, les, en, he, d1, d2, dt, k⟩ := h
    refine ⟨_, (pss_cons (ps_expr (pe_meth (pe_fld (pv 0) rfl) T.cl_Store T.m_Store_put.me G_Store_put (hr.mono (by first | decide | omega)) b_Store_put .nil pass0 (pa_cons (pe_fld (pv 1) rfl) (pa_cons (pv 2) (pa_cons (pv 3) pa_nil)))))
      (pss_cons (ps_expr (pe_meth (pe_fld (pv 0) rfl) T.cl_Shelf T.m_Shelf_follow.me G_Shelf_follow (hr.mono (by first | decide | omega)) b_Shelf_follow .nil pass0 (pa_cons (pe_fld (pv 0) rfl) (pa_cons (pv 1) pa_nil))))
      (pss_cons (ps_fld (pv 0) (pv 1) rfl)
      (pss_one (ps_fld (pv 0) (pe_slice sl_list (pe_op op_cat (pe_fld (pv 0) rfl) (pv 3)) (po_some (pe_un un_neg (pe_glob (v := .int 16) rfl T.k_MOST_ENTRIES.choose_spec ⟨_, rfl⟩))) po_none) rfl))))), ?_⟩
    obtain ⟨dx, hs, el⟩ := L.at_
    obtain ⟨num, R⟩ := L.rt
    obtain ⟨dx2, e2⟩ := L.sto.at_
    obtain ⟨dx3, e3⟩ := TB.at_
    obtain ⟨eo, ee, eln⟩ := L.ent
    obtain ⟨dx4, e4⟩ := L.shf.at_
    have no1 : ¬ sF a.st a.d a.ls a.lu l := sto_ins el (by intro _ _ _ z; cases z) (by intro _ _ _ _ _ _ z; cases z) L.sto
    have no2 : ¬ sF a.st a.d a.ls a.lu a.sh := sto_ins e4 (by intro _ _ _ z; cases z) (by intro _ _ _ _ _ _ z; cases z) L.sto
    have no3 : ¬ sF a.st a.d a.ls a.lu a.cp := sto_dK L.shf.dic L.sto
    have no4 : ¬ sF a.st a.d a.ls a.lu a.en := by
      obtain ⟨ddx, tpx, st, ed, _⟩ := L.sto.dk.ex
      rintro (y | y | y | y)
      · exact ne_of ee e2 (by intro z; cases z) y
      · exact ne_of ee ed (by intro z; cases z) y
      · exact L.n1 y
      · exact L.n2 y
    have nsh : a.sh ≠ l := fld_ne e4 el (by intro z; cases z)
    have ncp : a.cp ≠ l := ne_of L.shf.dic el (by intro z; cases z)
    have nen : a.en ≠ l := ne_of ee el (by intro z; cases z)
    -- self.store.put(trial.number, pages, entries)
    refine ⟨_, rfl, l, A.c 55, dx, _, _, rfl, el, T.cl_Lead, T.n_Lead_store, l_store .., a.st, dx2, _, rfl, e2, rfl, _, rfl, tb, A.c 44, dx3, _, _, rfl, e3, T.cl_Table, T.n_Table_number, l_num .., _, rfl, _, rfl, ?_⟩
    refine ⟨a.st, a.d, a.ls, a.lu, a.r, m, num, _, e, lp, le, ps, es, rfl, L.sto, R, L.r0, hlp, hps, lps, hle, hes, les, en, he, fun z => d1 (.inr (.inl (.inr (.inr (.inl z))))), fun z => d1 (.inr (.inl (.inr (.inr (.inr z))))), fun z => d2 (.inr (.inl (.inr (.inr (.inl z))))), fun z => d2 (.inr (.inl (.inr (.inr (.inr z))))), fun r' G lu' m' hlu kG SG q1 q2 q3 RG => ?_⟩
    have elG := kG.t.ins el no1
    have ShG : ShAt A G a.sh a.cp a.bg a.cs t := L.shf.kt kG.t no2 no3 fun b z y => L.ap b y (.inr (.inl z))
    have TBG := TB.kt kG.t fun b z y => dt b y (.inr (.inl z))
    have TAG := L.tab.kt kG.t fun b z y => tab_sto L.sto L.tab b z y
    obtain ⟨dx5, e5⟩ := ShG.at_
    have ncsl : ¬ csF a.cs l := fun z => L.ap l z (.inl rfl)
    -- self.shelf.follow(self.table, trial)
    refine ⟨_, rfl, l, A.c 55, dx, _, _, rfl, elG, T.cl_Lead, T.n_Lead_shelf, l_shelf .., a.sh, dx5, _, rfl, e5, rfl, _, rfl, l, A.c 55, dx, _, _, rfl, elG, T.cl_Lead, T.n_Lead_table, l_table .., _, rfl, a.sh, a.cp, a.bg, a.cs, a.tb, a.rw, a.hd, a.gn, t, n, tb, rw, hd, gn, t', n', rfl, ShG, TAG, TBG, (fun b z => z.elim (fun y => by rw [y]; exact L.n3) fun y q => L.ap b y (.inr (.inr (.inl q)))), (fun b z q => dt b q (z.elim (fun y => .inr (.inr (.inr (.inr (.inr (.inl y)))))) fun y => .inr (.inr (.inr (.inr (.inr (.inr y))))))), TG.kp kG, fun G2 Sh2 k2 => ?_⟩
    have el2 := k2.t.ins elG ncsl
    -- self.table = trial
    refine ⟨_, rfl, _, rfl, l, A.c 55, dx, _, rfl, el2, T.cl_Lead, T.n_Lead_table, by show 6 < 1000; decide, ?_⟩
    rw [p_table]
    have k3 : Kp (fun b => b = l) G2 (upd G2 l (.ins (A.c 55) dx (lfl a.st hs tb a.en a.sh a.fo))) := Kp.updI el2 rfl
    have e6 : upd G2 l (.ins (A.c 55) dx (lfl a.st hs tb a.en a.sh a.fo)) l = some (.ins (A.c 55) dx (lfl a.st hs tb a.en a.sh a.fo)) := upd_same
    generalize upd G2 l (.ins (A.c 55) dx (lfl a.st hs tb a.en a.sh a.fo)) = G3 at k3 e6 ⊢
    have toL : ∀ b, (b = l ∨ sF a.st a.d a.ls a.lu b ∨ csF a.cs b) → lF l a b := fun b z => z.imp id fun y => y.imp id fun q => .inr (.inr (.inr (.inr q)))
    have k03 : Kg (tL tp) (fun b => b = l ∨ sF a.st a.d a.ls a.lu b ∨ csF a.cs b) H G3 := (((Kg.of kG).sub (F' := fun b => b = l ∨ sF a.st a.d a.ls a.lu b ∨ csF a.cs b) fun b z => .inr (.inl z)).trans k2 fun _ z => .inl (.inr (.inr z))).trans (Kg.of k3) fun b z => .inl (.inl z)
    have nle : ¬ (le = l ∨ sF a.st a.d a.ls a.lu le ∨ csF a.cs le) := fun z => d2 (toL _ z)
    have ee3 := k03.t.lst ee fun z => z.elim nen fun y => y.elim no4 fun q => L.ap _ q (.inr (.inr (.inr (.inl rfl))))
    have hle3 := k03.t.lst hle nle
    -- self.entries = (self.entries + entries)[-MOST_ENTRIES:]
    refine ⟨_, rfl, l, A.c 55, dx, _, _, rfl, e6, T.cl_Lead, T.n_Lead_entries, l_entries .., _, rfl, a.en, le, eo, es, rfl, rfl, ee3, hle3, sz (eo.length + es.length) (by omega), fun q nq => ⟨_, rfl, _, rfl, q, _, rfl, SqL.of upd_same, fun en' nen' => ⟨_, rfl, l, A.c 55, dx, _, rfl, (upd_ne (ne_of_none ((upd_ne (ne_of_none e6 nq)).trans e6) nen')).trans ((upd_ne (ne_of_none e6 nq)).trans e6), T.cl_Lead, T.n_Lead_entries, by show 6 < 1000; decide, ?_⟩⟩⟩
    rw [p_entries]
    have k4 : Kp No G3 (upd (upd G3 q (.lst (eo ++ es))) en' (.lst (cutV (eo ++ es) (some (-16)) none))) := (Kp.new nq).andN nen'
    have een : upd (upd G3 q (.lst (eo ++ es))) en' (.lst (cutV (eo ++ es) (some (-16)) none)) en' = some (.lst (cutV (eo ++ es) (some (-16)) none)) := upd_same
    have nen3 : G3 en' = none := (upd_none nen').2
    show Q V.non (upd (upd (upd G3 q (.lst (eo ++ es))) en' (.lst (cutV (eo ++ es) (some (-16)) none))) l _)
    generalize upd (upd G3 q (.lst (eo ++ es))) en' (.lst (cutV (eo ++ es) (some (-16)) none)) = G4 at k4 een ⊢
    have e7 := k4.t.ins e6 fun z => z
    have k5 : Kp (fun b => b = l) G4 (upd G4 l (.ins (A.c 55) dx (lfl a.st hs tb en' a.sh a.fo))) := Kp.updI e7 rfl
    have k35 : Kp (fun b => b = l) G3 (upd G4 l (.ins (A.c 55) dx (lfl a.st hs tb en' a.sh a.fo))) := (k4.sub fun _ z => False.elim z).trans k5 fun b z => .inl z
    have k25 : Kp (fun b => b = l) G2 (upd G4 l (.ins (A.c 55) dx (lfl a.st hs tb en' a.sh a.fo))) := k3.trans k35 fun b z => .inl z
    have kF : Kg (tL tp) (lF l a) H (upd G4 l (.ins (A.c 55) dx (lfl a.st hs tb en' a.sh a.fo))) := (k03.sub (F' := lF l a) toL).trans (Kg.of k35) fun b z => .inl (.inl z)
    have hl1 : ∀ b, b = l → ¬ sF a.st a.d a.ls lu' b := fun b z y => by
      rw [z] at y
      exact sto_ins elG (by intro _ _ _ z; cases z) (by intro _ _ _ _ _ _ z; cases z) SG y
    have hl2 : ∀ b, b = l → ¬ tF tb rw hd gn b := fun b z y => by
      rw [z] at y
      exact tab_ins el (by intro _ _ _ _ z; cases z) TB y
    have enH : lF l a en' ∨ H en' = none := by
      by_cases z : en' = l ∨ sF a.st a.d a.ls a.lu en' ∨ csF a.cs en'
      · exact .inl (toL _ z)
      · exact .inr (k03.free nen3 fun y => absurd y z)
    have nG : G2 en' = none := by
      by_cases z : en' = l
      · rw [z, e6] at nen3; cases nen3
      · exact k3.free nen3 fun y => absurd y z
    have ncsn : ¬ csF a.cs en' := fun z => by
      obtain ⟨o, eo⟩ := Sh2.there z
      rw [nG] at eo; cases eo
    have nG1 : G en' = none := k2.free nG fun z => absurd z ncsn
    have nsF : ∀ b, csF a.cs b → ¬ sF a.st a.d a.ls lu' b := fun b z y => by
      rcases y with y | y | y | y
      · exact L.ap b z (.inr (.inl (.inl y)))
      · exact L.ap b z (.inr (.inl (.inr (.inl y))))
      · exact L.ap b z (.inr (.inl (.inr (.inr (.inl y)))))
      · rcases hlu with q | q
        · exact L.ap b z (.inr (.inl (.inr (.inr (.inr (y.trans q))))))
        · obtain ⟨o, eo⟩ := L.shf.there z
          rw [y, q] at eo; cases eo
    have nsT : ∀ b, csF a.cs b → ¬ tF tb rw hd gn b := fun b z y => dt b y (.inr (.inr (.inr (.inr (.inr (.inr z))))))
    refine k _ ⟨a.st, a.d, a.ls, lu', r', tb, rw, hd, gn, en', a.sh, a.cp, a.fo, a.bg, a.cs⟩ m' ⟨⟨dx, hs, upd_same⟩, (SG.kt k2.t nsF).kt k25.t hl1, ⟨_, (RG.kt k2.t).kt k25.t⟩, q1, (TBG.kt k2.t nsT).kt k25.t hl2, ⟨_, k5.t.lst een ?_, ?_⟩, Sh2.kt k25.t nsh ncp (fun b z y => ncsl (by rw [← show b = l from z]; exact y)), ?_, ?_, (fun z => dt _ z (.inr (.inr (.inr (.inr (.inr (.inl rfl))))))), ?_⟩ q3 rfl rfl ?_ kF rfl rfl rfl
    · intro z
      rw [show en' = l from z, e6] at nen3; cases nen3
    · unfold cutV
      rw [List.length_take, List.length_drop]
      have : HT.sIx (eo ++ es).length (eo ++ es).length none = (eo ++ es).length := rfl
      have h2 : HT.sIx (eo ++ es).length 0 (some (-16)) = ((-16 : Int) + ((eo ++ es).length : Int)).toNat := rfl
      rw [this, h2]
      omega
    · intro z
      rw [show en' = a.ls from z, SG.dk.sure] at nG1; cases nG1
    · intro z
      obtain ⟨rs, h3, _⟩ := SG.dk.uns
      rw [show en' = lu' from z, h3] at nG1; cases nG1
    · rintro b zc (z | z | z | z | z | z)
      · exact L.ap b zc (.inl z)
      · exact nsF b zc z
      · exact nsT b zc z
      · exact ncsn (by rw [← show b = en' from z]; exact zc)
      · exact L.ap b zc (.inr (.inr (.inr (.inr (.inl z)))))
      · exact L.ap b zc (.inr (.inr (.inr (.inr (.inr z)))))
    · rintro b (z | (z | z | z | z) | z | z | z | z | z)
      · exact .inl (.inl z)
      · exact .inl (.inr (.inl (.inl z)))
      · exact .inl (.inr (.inl (.inr (.inl z))))
      · exact .inl (.inr (.inl (.inr (.inr (.inl z)))))
      · rw [show b = lu' from z]
        exact hlu.elim (fun y => .inl (.inr (.inl (.inr (.inr (.inr y)))))) fun y => .inr (.inr y)
      · exact .inr (.inl z)
      · rw [show b = en' from z]
        exact enH.imp id .inr
      · exact .inl (.inr (.inr (.inr (.inr (.inl z)))))
      · exact .inl (.inr (.inr (.inr (.inr (.inr (.inl z))))))
      · exact .inl (.inr (.inr (.inr (.inr (.inr (.inr z))))))
end
end S02

set_option Elab.async false
set_option linter.all false
set_option maxRecDepth 100000
set_option maxHeartbeats 4000000
namespace S02
open PySem PySem.Spec PyProof.Rows L2 K5 SupX GenX
section
variable {P : Program} {w : World} {K : PySem.W.Frag} {mg : Str → Option Value} {base : Heap} {A : Ad} {tp : Nat → Addr} {nr pl B C fI : Addr}
/-- a change is at its end: the trial's cells are new -/
theorem fin_change {H G5 G : Hp} {l tb rw hd gn : Addr} {a a' : La} {t' : TT} {n' : Nat} {m' : M} {e : Int} {Q : Hp → Prop} (k : LdQ A K tp H l a t' n' e Q) (kg : Kg (tL tp) No H G5) (nt : ∀ b, tF tb rw hd gn b → H b = none) (L : LeadAt A K G l a' t' n' m') (en : Enough m' e) (hd_ : a'.d = a.d) (hb : ∀ b, lF l a' b → lF l a b ∨ tF tb rw hd gn b ∨ G5 b = none) (kp : Kg (tL tp) (lF l a) G5 G) (hcs : a'.cs = a.cs ∧ a'.bg = a.bg ∧ a'.sh = a.sh) : Q G :=
  k G a' m' L en hd_ (fun b z => (hb b z).imp id fun y => y.elim (nt b) fun y => kg.free y fun z => False.elim z) ((kg.sub fun _ z => False.elim z).trans kp fun b z => .inl z) hcs
/-! ### known, clock, read, whole -/
theorem scRd : FnScope ["self", "key", "token"] ["self", "key", "token"] (defScope s_Lead_read) := ⟨rfl, rfl, rfl, by decide +kernel, rfl, by decide +kernel, by decide +kernel⟩
def spReadL (A : Ad) (K : PySem.W.Frag) : Sp := fun vs H Q _ => ∃ (l : Addr) (a : La) (t : TT) (n : Nat) (m : M) (j tk : Int), vs = [.ref l, .int j, .int tk] ∧ LeadAt A K H l a t n m ∧ inB 0 31 j = true ∧ tk ≤ t.num ∧ ∀ G b, H b = none → Kp No H G → G b = some (.tup [.int t.num, oV (seen t.mom t.rows j)]) → Q (.ref b) G
theorem ok_readL (T : Txt K mg A) : ∃ fd, FnOk P w K mg base CX0 4 (A.m 55 6) fd ["self", "key", "token"] (spReadL A K) ∧ Binds K fd ["self", "key", "token"] [] := by
  obtain ⟨fd, F⟩ := T.m_Lead_read.fn
  obtain ⟨fd1, G_Table_told_of, b_Table_told_of⟩ := ok_told_of (P := P) (w := w) (base := base) T
  refine ⟨fd, F.ok scRd (fun vs H Q E h => ?_) (fun cdv Ar outer s H vs Q E hr h => ?_), F.binds fun _ _ _ _ _ _ us hl => match us, hl with | [_, _, _], _ => rfl⟩
  · obtain ⟨l, a, t, n, m, j, tk, rfl, _⟩ := h
    rfl
  · obtain ⟨l, a, t, n, m, j, tk, rfl, L, hj, htk, k⟩ := h
    refine ⟨_, (pss_one (ps_ret (pe_meth (pe_fld (pv 0) rfl) T.cl_Table T.m_Table_told_of.me G_Table_told_of (hr.mono (by first | decide | omega)) b_Table_told_of .nil pass0 (pa_cons (pv 1) (pa_cons (pv 2) pa_nil))))), ?_⟩
    obtain ⟨dx, hs, el⟩ := L.at_
    obtain ⟨dx2, e2⟩ := L.tab.at_
    exact ⟨_, rfl, l, A.c 55, dx, _, _, rfl, el, T.cl_Lead, T.n_Lead_table, l_table .., a.tb, dx2, _, rfl, e2, rfl, _, rfl, _, rfl, a.tb, a.rw, a.hd, a.gn, t, n, j, tk, rfl, L.tab, hj, htk, k⟩
theorem scWl : FnScope ["self"] ["self"] (defScope s_Lead_whole) := ⟨rfl, rfl, rfl, by decide +kernel, rfl, by decide +kernel, by decide +kernel⟩
def spWholeL (A : Ad) (K : PySem.W.Frag) (tp : Nat → Addr) : Sp := fun vs H Q _ => ∃ (l : Addr) (a : La) (t : TT) (n : Nat) (m : M), vs = [.ref l] ∧ LeadAt A K H l a t n m ∧ Tg (tL tp) H ∧
  ∀ G b l1 l2 xs zs, H b = none → H l1 = none → H l2 = none → l1 ≠ l2 → Kg (tL tp) No H G → G b = some (.tup [.int t.mom, .ref l1, .ref l2]) → G l1 = some (.lst xs) → Paired (RwV G) xs (whRows t 8) → G l2 = some (.lst zs) → Paired (RhV G) zs (hnRows t.hands) → Q (.ref b) G
theorem ok_wholeL (T : Txt K mg A) (TB : TbsB base mg A tp) : ∃ fd, FnOk P w K mg base CX0 8 (A.m 55 7) fd ["self"] (spWholeL A K tp) ∧ Binds K fd ["self"] [] := by
  obtain ⟨fd, F⟩ := T.m_Lead_whole.fn
  obtain ⟨fd1, G_Table_told_whole, b_Table_told_whole⟩ := ok_told_whole (P := P) (w := w) (base := base) T TB
  refine ⟨fd, F.ok scWl (fun vs H Q E h => ?_) (fun cdv Ar outer s H vs Q E hr h => ?_), F.binds fun _ _ _ _ _ _ us hl => match us, hl with | [_], _ => rfl⟩
  · obtain ⟨l, a, t, n, m, rfl, _⟩ := h
    rfl
  · obtain ⟨l, a, t, n, m, rfl, L, TG, k⟩ := h
    refine ⟨_, (pss_one (ps_ret (pe_meth0 (pe_fld (pv 0) rfl) T.cl_Table T.m_Table_told_whole.me G_Table_told_whole (hr.mono (by first | decide | omega)) b_Table_told_whole .nil pass0))), ?_⟩
    obtain ⟨dx, hs, el⟩ := L.at_
    obtain ⟨dx2, e2⟩ := L.tab.at_
    exact ⟨_, rfl, l, A.c 55, dx, _, _, rfl, el, T.cl_Lead, T.n_Lead_table, l_table .., a.tb, dx2, _, rfl, e2, rfl, a.tb, a.rw, a.hd, a.gn, t, n, rfl, L.tab, TG, k⟩
/-! ### tick -/
theorem scTc : FnScope ["self", "moment", "trial", "entry"] ["self", "moment"] (defScope s_Lead_tick) := ⟨rfl, rfl, rfl, by decide +kernel, rfl, by decide +kernel, by decide +kernel⟩
def spTick (A : Ad) (K : PySem.W.Frag) (tp : Nat → Addr) : Sp := fun vs H Q _ => ∃ (l : Addr) (a : La) (t : TT) (n : Nat) (m : M) (mo e : Int), vs = [.ref l, .int mo] ∧ LeadAt A K H l a t n m ∧ Tg (tL tp) H ∧ t.mom + 1 ≤ mo ∧ mo ≤ 1000000 ∧ n ≤ 14000 ∧ 0 ≤ t.num ∧ Enough m (e + 16) ∧ 0 ≤ e ∧
  LdQ A K tp H l a (t.next (.tick mo)) (n + 5) e (Q (.int (t.num + 1)))
theorem ok_tick (T : Txt K mg A) (TB : TbsB base mg A tp) (X : Ex P w K mg A B C fI) : ∃ fd, FnOk P w K mg base CX0 12 (A.m 55 5) fd ["self", "moment"] (spTick A K tp) ∧ Binds K fd ["self", "moment"] [] := by
  obtain ⟨fd, F⟩ := T.m_Lead_tick.fn
  obtain ⟨fdW, Gwithin, bwithin⟩ := ok_within (P := P) (w := w) (base := base) T
  obtain ⟨fd1, G_Table_twin, b_Table_twin⟩ := ok_twin (P := P) (w := w) (base := base) T
  obtain ⟨fd2, G_Table_take, b_Table_take⟩ := ok_takeT (P := P) (w := w) (base := base) T X
  obtain ⟨fd3, G_Table_unlike, b_Table_unlike⟩ := ok_unlike (P := P) (w := w) (base := base) T TB
  obtain ⟨fd4, G_Lead_change_over, b_Lead_change_over⟩ := ok_change_over (P := P) (w := w) (base := base) (tp := tp) T TB
  refine ⟨fd, F.ok scTc (fun vs H Q E h => ?_) (fun cdv Ar outer s H vs Q E hr h => ?_), F.binds fun _ _ _ _ _ _ us hl => match us, hl with | [_, _], _ => rfl⟩
  · obtain ⟨l, a, t, n, m, mo, e, rfl, _⟩ := h
    rfl
  · obtain ⟨l, a, t, n, m, mo, e, rfl, L, TG, h1, h2, hn, hnu, en, he, k⟩ := h
    refine ⟨_, (pss_cons (ps_if (pt_not (pt_val (pe_call Gwithin (hr.mono (by first | decide | omega)) rfl T.within.at_ T.within.kp bwithin .nil pass0 (pa_cons (pv 1) (pa_cons (pe_op op_add (pe_fld (pe_fld (pv 0) rfl) rfl) pe_int) (pa_cons (pe_glob (v := .int 1000000) rfl T.k_LAST_MOMENT.choose_spec ⟨_, rfl⟩) pa_nil))))))
        (pss_one ps_never)
        pss_nil)
      (pss_cons (ps_set (i := 2) scTc.nd rfl (Or.inl rfl) (pe_meth0 (pe_fld (pv 0) rfl) T.cl_Table T.m_Table_twin.me G_Table_twin (hr.mono (by first | decide | omega)) b_Table_twin .nil pass0))
      (pss_cons (ps_set (i := 3) scTc.nd rfl (Or.inl rfl) (pe_tup (pa_cons pe_str (pa_cons (pv 1) pa_nil))))
      (pss_cons (ps_expr (pe_meth (pv 2) T.cl_Table T.m_Table_take.me G_Table_take (hr.mono (by first | decide | omega)) b_Table_take .nil pass0 (pa_cons (pv 3) pa_nil)))
      (pss_cons (ps_expr (pe_meth (pv 0) T.cl_Lead T.m_Lead_change_over.me G_Lead_change_over (hr.mono (by first | decide | omega)) b_Lead_change_over .nil pass0 (pa_cons (pv 2) (pa_cons (pe_meth (pe_fld (pv 0) rfl) T.cl_Table T.m_Table_unlike.me G_Table_unlike (hr.mono (by first | decide | omega)) b_Table_unlike .nil pass0 (pa_cons (pv 2) pa_nil)) (pa_cons (pe_lst (pa_cons (pe_tup (pa_cons (pe_fld (pv 2) rfl) (pa_cons (pv 3) pa_nil))) pa_nil)) pa_nil)))))
      (pss_one (ps_ret (pe_fld (pv 2) rfl)))))))), ?_⟩
    obtain ⟨dx, hs, el⟩ := L.at_
    obtain ⟨dx2, e2⟩ := L.tab.at_
    refine ⟨_, rfl, _, rfl, l, A.c 55, dx, _, _, rfl, el, T.cl_Lead, T.n_Lead_table, l_table .., a.tb, A.c 44, dx2, _, _, rfl, e2, T.cl_Table, T.n_Table_moment, l_mom .., _, _, rfl, rfl, _, _, _, rfl, .inl ⟨mo, rfl, _, rfl, ?_⟩⟩
    rw [show inB (t.mom + 1) 1000000 mo = true by unfold inB; rw [decide_eq_true h1, decide_eq_true h2]; rfl]
    refine iteF ?_
    -- trial = self.table.twin()
    refine ⟨_, rfl, l, A.c 55, dx, _, _, rfl, el, T.cl_Lead, T.n_Lead_table, l_table .., a.tb, dx2, _, rfl, e2, rfl, a.tb, a.rw, a.hd, a.gn, t, n, rfl, L.tab, fun G1 tb rw hd gn nt nr nh ng TB1 k1 => ?_⟩
    have L1 := L.kt k1.t fun _ z => False.elim z
    -- entry = ("tick", moment)
    refine ⟨_, rfl, sz 2 (by decide), fun q nq => ?_⟩
    have kq : Kp No G1 (upd G1 q (.tup [.str "tick", .int mo])) := Kp.new nq
    have hq : EvAt (upd G1 q (.tup [.str "tick", .int mo])) (.ref q) (.tick mo) := ⟨q, rfl, upd_same⟩
    generalize upd G1 q (.tup [.str "tick", .int mo]) = G2 at kq hq ⊢
    have TB2 := TB1.no kq.t
    obtain ⟨dx3, e3⟩ := TB2.at_
    have k12 : Kp No H G2 := k1.trans kq fun _ z => False.elim z
    have hnew : ∀ b, tF tb rw hd gn b → H b = none := fun b z => by
      rcases z with z | z | z | z <;> rw [z] <;> assumption
    -- trial.take(entry)
    refine ⟨_, rfl, tb, dx3, _, rfl, e3, rfl, _, rfl, tb, rw, hd, gn, t, n, .ref q, .tick mo, rfl, TB2, hq, trivial, (fun _ z => by cases z; omega), hn, fun G3 rw' hrw TB3 k3 => ?_⟩
    have hnew' : ∀ b, tF tb rw' hd gn b → H b = none := fun b z => by
      rcases z with z | z | z | z
      · rw [z]; exact nt
      · rw [z]; exact hrw.elim (fun y => by rw [y]; exact nr) fun y => k12.free y fun z => False.elim z
      · rw [z]; exact nh
      · rw [z]; exact ng
    have k13 : Kp No H G3 := kp_fresh (F := fun b => tF tb rw hd gn b) ((k12.sub fun _ z => False.elim z).trans k3 fun b z => .inl (z.elim .inl fun y => .inr (.inr (.inl y)))) hnew
    have L3 := L.kt k13.t fun _ z => False.elim z
    obtain ⟨dx4, hs4, el4⟩ := L3.at_
    obtain ⟨dx5, e5⟩ := L3.tab.at_
    obtain ⟨dx6, e6⟩ := TB3.at_
    -- self.change_over(trial, self.table.unlike(trial), [(trial.number, entry)])
    refine ⟨_, rfl, l, dx4, _, rfl, el4, rfl, _, rfl, _, rfl, l, A.c 55, dx4, _, _, rfl, el4, T.cl_Lead, T.n_Lead_table, l_table .., a.tb, dx5, _, rfl, e5, rfl, _, rfl, a.tb, a.rw, a.hd, a.gn, t, n, tb, rw', hd, gn, _, _, rfl, L3.tab, TB3, TG.kp k13, fun G4 lp ps nlp k4 hlp hps lps => ?_⟩
    have TB4 := TB3.no k4.t
    obtain ⟨dx7, e7⟩ := TB4.at_
    refine ⟨_, rfl, tb, A.c 44, dx7, _, _, rfl, e7, T.cl_Table, T.n_Table_number, l_num .., _, rfl, sz 2 (by decide), fun u nu => ⟨sz 1 (by decide), fun le nle => ?_⟩⟩
    have ku : Kp No G4 (upd (upd G4 u (.tup [.int (t.num + 1), .ref q])) le (.lst [.ref u])) := (Kp.new nu).andN nle
    have hu : upd (upd G4 u (.tup [.int (t.num + 1), .ref q])) le (.lst [.ref u]) u = some (.tup [.int (t.num + 1), .ref q]) := by rw [upd_ne (upd_none nle).1.symm, upd_same]
    have hle : upd (upd G4 u (.tup [.int (t.num + 1), .ref q])) le (.lst [.ref u]) le = some (.lst [.ref u]) := upd_same
    have nleG : G4 le = none := (upd_none nle).2
    unfold tNil
    show spChange A K tp [.ref l, .ref tb, .ref lp, .ref le] (upd (upd G4 u (.tup [.int (t.num + 1), .ref q])) le (.lst [.ref u])) _ _
    generalize upd (upd G4 u (.tup [.int (t.num + 1), .ref q])) le (.lst [.ref u]) = G5 at ku hu hle ⊢
    have k14 : Kg (tL tp) No H G4 := (Kg.of k13).trans k4 fun _ z => False.elim z
    have k15 : Kg (tL tp) No H G5 := k14.trans (Kg.of ku) fun _ z => False.elim z
    have L5 := L.kt k15.t fun _ z => False.elim z
    have hq5 : EvAt G5 (.ref q) (.tick mo) := ((hq.kt k3.t).kt k4.t).kt ku.t
    have nlF : ∀ b, H b = none → ¬ lF l a b := fun b z y => by
      obtain ⟨o, eo⟩ := L.there y
      rw [z] at eo; cases eo
    have nlp5 : ¬ lF l a lp := nlF _ (k13.free nlp fun z => False.elim z)
    have nle5 : ¬ lF l a le := nlF _ (k14.free nleG fun z => False.elim z)
    refine ⟨l, a, t, n, m, tb, rw', hd, gn, _, _, lp, le, ps, [.ref u], e, rfl, L5, TB4.no ku.t, TG.kg k15, ku.t.lst hlp (fun z => z), (fun v hv => (hps v hv).kt ku.t), lps, hle, (fun v hv => ?_), (by show 1 ≤ 4; decide), en, he, nlp5, nle5, (fun b z => nlF b (hnew' b z)), fun G a' m' LG q1 q2 q3 q4 kG qc qb qs => ?_⟩
    · rw [List.mem_singleton.mp hv]
      exact ⟨u, t.num + 1, .ref q, .tick mo, rfl, hu, (by omega), hq5, trivial⟩
    · obtain ⟨dx8, e8⟩ := LG.tab.at_
      rw [q3] at e8
      exact ⟨_, rfl, tb, A.c 44, dx8, _, _, rfl, e8, T.cl_Table, T.n_Table_number, l_num .., fin_change k k15 hnew' LG q1 q2 q4 kG ⟨qc, qb, qs⟩⟩
end
end S02

set_option Elab.async false
set_option linter.all false
set_option maxRecDepth 100000
set_option maxHeartbeats 4000000
namespace S02
open PySem PySem.Spec PyProof.Rows L2 K5 SupX GenX
theorem dc_rng {lo : Int} {n : Nat} {g : TG} {tt : L2.TT} {tk tv : TE} {vs : List Nat} {σ : L2.St} {H1 : Hp} {D : Addr} {Qd : Hp → Prop} (Pv : Nat → Hp → Prop) (h0 : Pv 0 (upd H1 D (.dK [])))
    (hs : ∀ i H, i < n → Pv i H → g (.int (lo + i)) (wipe σ vs) H fun σ2 H2 => wipe σ2 vs = wipe σ vs ∧ tt σ2 H2 fun b H3 =>
      if b = true then tk σ2 H3 fun y H4 => tv σ2 H4 fun z H5 => ∃ kvs k, y = kV k ∧ H5 D = some (.dK kvs) ∧ kvs.length < sizeLine ∧ Pv (i + 1) (upd H5 D (.dK (putK kvs k z))) else Pv (i + 1) H3) (hd : ∀ H, Pv n H → Qd H) :
    ∃ W : Nat → Nat → Hp → Prop, (∃ m, W 0 m (upd H1 D (.dK []))) ∧ ∀ i m H, W i m H →
      ((Itr lo n).stop i H ∧ Qd H) ∨ ((Itr lo n).go i H ∧ ∃ Nx : Hp → Prop, (∀ H', Nx H' → ∃ m', m' < m ∧ W (i + 1) m' H') ∧ ∀ x H', (Itr lo n).yld i H x H' → g x (wipe σ vs) H' fun σ2 H2 => wipe σ2 vs = wipe σ vs ∧ tt σ2 H2 fun b H3 =>
        if b = true then tk σ2 H3 fun y H4 => tv σ2 H4 fun z H5 => ∃ kvs k, y = kV k ∧ H5 D = some (.dK kvs) ∧ kvs.length < sizeLine ∧ Nx (upd H5 D (.dK (putK kvs k z))) else Nx H3) := by
  refine ⟨fun i m H => m = n - i ∧ i ≤ n ∧ Pv i H, ⟨n, by simp, Nat.zero_le _, h0⟩, ?_⟩
  rintro i m H ⟨rfl, hi, p⟩
  by_cases h : i < n
  · refine .inr ⟨h, Pv (i + 1), fun H' p' => ⟨n - (i + 1), by omega, rfl, h, p'⟩, fun x H' y => ?_⟩
    obtain ⟨e, y⟩ := y
    subst e y
    exact hs i _ h p
  · have e : i = n := by omega
    subst e
    exact .inl ⟨Nat.le_refl _, hd H p⟩
/-- a deal of a hand -/
structure Gd where
  hd : Int
  x : Int
  ds : List Dd
def GdAt (H : Hp) (v : V) (g : Gd) : Prop := ∃ u dv, v = .ref u ∧ H u = some (.tup [.int g.hd, .int g.x, dv]) ∧ DsAt H dv g.ds
theorem GdAt.kt {F : Addr → Prop} {H G : Hp} (k : Kt F H G) {v : V} {g : Gd} (h : GdAt H v g) : GdAt G v g := let ⟨u, dv, e, q, d⟩ := h; ⟨u, dv, e, k.tup q, d.kt k⟩
def setL (f : Int → Int) (h x : Int) : Int → Int := fun j => if j = h then x else f j
/-- the deals may be taken, one behind the other -/
def okG : (Int → Int) → List Gd → Prop
  | _, [] => True
  | f, g :: gs => 0 ≤ g.hd ∧ g.hd ≤ 3 ∧ 1 ≤ g.x ∧ f g.hd ≤ g.x ∧ g.x ≤ f g.hd + 1 ∧ dealBad g.ds = none ∧ g.ds.length ≤ 4 ∧ okG (setL f g.hd g.x) gs
theorem okG.drop {gs : List Gd} : ∀ {f : Int → Int}, okG f gs → ∀ i g, gs[i]? = some g → ∃ f', okG f' (g :: gs.drop (i + 1)) ∧ f' = (gs.take i).foldl (fun f g => setL f g.hd g.x) f := by
  induction gs with
  | nil => intro f _ i g h; cases h
  | cons a gs ih =>
    intro f h i g hg
    cases i with
    | zero =>
      cases hg
      exact ⟨f, h, rfl⟩
    | succ i => exact ih h.2.2.2.2.2.2.2 i g hg
end S02

set_option Elab.async false
set_option linter.all false
set_option maxRecDepth 100000
set_option maxHeartbeats 2000000
/-! name = {k: v for ..} on one line, the name a local -/
namespace SupX
open PySem PySem.Spec PyProof.Rows L2
theorem sw_trueD {kx vx : Expr} {gs : List Comprehension} {scope : Scope} {pos py : Pos} {y : Str} {l : Nat} {env : Env} (hk : env.scope.kind = .function) (hy : env.scope.names.lookup y = some .local) (hl : (py.line == pos.line) = true)
    (ha : (scope.names.any fun (n, k) => n == y && (k == .local || k == .cell)) = false) : swapsWith (.DictComp kx vx gs scope pos) (some (.Name y py)) l env = pure true := by
  have kindY : env.kindOf y = some .local := hy
  have blkF : env.blockKind = .function := by unfold Env.blockKind; rw [hk]; rfl
  unfold swapsWith
  simp only [blkF, kindY, ha, Expr.pos, hl]
  rfl
theorem ps_setDc {X : Cx} {i : Nat} {y : Str} {py : Pos} {kx vx tg iter : Expr} {ifs : List Expr} {scope : Scope} {own : List (Str × Nat)} {pos spos : Pos} {wi : TI} {g : TG} {tt : L2.TT} {tk tv : TE} (hc : X.calm = true) (hN : X.N.Nodup) (hy : X.N[i]? = some y) (hLoc : X.env.scope.names.lookup y = some .local)
    (hsw : swapsWith (.DictComp kx vx [⟨tg, iter, ifs, 0⟩] scope pos) (some (.Name y py)) spos.line X.env = pure true) (hi : PI X tg iter wi) (ok : BlkOk X.N X.env.scope scope own)
    (hg : ∀ (s : Shared) (H : Hp) (C : Addr) (clo : List (Str × Addr)) (fps : List Addr), PG (X.blk s H scope (compEnvC scope clo C X.env) fps) tg g) (ht : ∀ (s : Shared) (H : Hp) (C : Addr) (clo : List (Str × Addr)) (fps : List Addr), PTs (X.blk s H scope (compEnvC scope clo C X.env) fps) ifs tt)
    (hk : ∀ (s : Shared) (H : Hp) (C : Addr) (clo : List (Str × Addr)) (fps : List Addr), PE (X.blk s H scope (compEnvC scope clo C X.env) fps) kx tk)
    (he : ∀ (s : Shared) (H : Hp) (C : Addr) (clo : List (Str × Addr)) (fps : List Addr), PE (X.blk s H scope (compEnvC scope clo C X.env) fps) vx tv) (hs : ∀ x, foldedSetIterable iter X.env x = pure x := by intro _; rfl) :
    PS X (.Assign [.Name y py] (.DictComp kx vx [⟨tg, iter, ifs, 0⟩] scope pos) spos) (tAsg (tDc wi g tt tk tv (own.map (·.2))) (gName i)) := by
  refine ⟨fun pn s σ H D I h => ?_⟩
  rw [exec_Assign_Name_used _ _ _ _ hsw]
  refine wpAny_bind (wpAny_standAt (wpAny_bind ?_))
  show wpAny _ X.A (do let _ ← comprehension (.DictComp kx vx [⟨tg, iter, ifs, 0⟩] scope pos) scope X.env (firstIterPos [⟨tg, iter, ifs, 0⟩] pos) newDict false (eval iter X.env) (some (assign (.Name y py) X.env))) _ _ s
  have h : tDc wi g tt tk tv (own.map (·.2)) σ H (fun x H1 => gName i x σ H1 D.nx) := h
  refine wpAny_bind (thn (dc_core (Qf := fun _ s' => SP X pn D .next s') hc hN I hi ok hg ht hk he hs h fun L C s' m H' I' q hn f => ?_) fun _ s' hq => wpAny_pure (wpAny_pure hq))
  show wpAny _ _ (assign (.Name y py) X.env (.ref L)) _ _ _
  refine wpAny_assign_Name (store_ok2 (v := V.ref L) I' hN hy (.inl hLoc) rfl (fun sw Iw ⟨a, sb, ha⟩ => ?_) (.inr hLoc))
  obtain ⟨z0, z1, z2, z3, z4, z5⟩ := f
  have neC : C ≠ a := by
    rcases ha with z | z
    · rw [z]; exact z1
    · exact fun e => z4 y a z e.symm
  refine ⟨m, hn.sameBut sb neC, fun hw sbw => ?_⟩
  exact ⟨_, H', Iw.turned (t' := sw.toks) (fun b o blkF e => (sbw.2 b blkF).trans e) z0 z1 z3 z4 z5, q⟩
end SupX

set_option Elab.async false
set_option linter.all false
set_option maxRecDepth 100000
set_option maxHeartbeats 8000000
namespace S02
open PySem PySem.Spec PyProof.Rows L2 K5 SupX GenX
section
variable {P : Program} {w : World} {K : PySem.W.Frag} {mg : Str → Option Value} {base : Heap} {A : Ad} {tp : Nat → Addr} {nr pl B C fI : Addr}
/-! ### check_page, tidy -/
theorem scCp : FnScope ["page"] ["page"] (defScope s_check_page) := ⟨rfl, rfl, rfl, by decide +kernel, rfl, by decide +kernel, by decide +kernel⟩
def spCp : Sp := fun vs H Q _ => ∃ p : Int, vs = [.int p] ∧ 0 ≤ p ∧ p ≤ 8 ∧ Q .non H
theorem ok_check_page (T : Txt K mg A) : ∃ fd, FnOk P w K mg base CX0 2 (A.d 54) fd ["page"] spCp ∧ Binds K fd ["page"] [] := by
  obtain ⟨fd, F⟩ := T.check_page.fn
  obtain ⟨fdW, Gwithin, bwithin⟩ := ok_within (P := P) (w := w) (base := base) T
  refine ⟨fd, F.ok scCp (fun vs H Q E h => ?_) (fun cdv Ar outer s H vs Q E hr h => ?_), F.binds fun _ _ _ _ _ _ us hl => match us, hl with | [_], _ => rfl⟩
  · obtain ⟨p, rfl, _⟩ := h
    rfl
  · obtain ⟨p, rfl, p0, p8, k⟩ := h
    refine ⟨_, (pss_one (ps_if (pt_not (pt_val (pe_call Gwithin (hr.mono (by first | decide | omega)) rfl T.within.at_ T.within.kp bwithin .nil pass0 (pa_cons (pv 0) (pa_cons pe_int (pa_cons (pe_op op_sub (pe_glob (v := .int 9) rfl T.k_PAGES.choose_spec ⟨_, rfl⟩) pe_int) pa_nil))))))
        (pss_one ps_never)
        pss_nil)), ?_⟩
    refine ⟨_, rfl, _, _, rfl, rfl, _, _, _, rfl, .inl ⟨p, rfl, _, rfl, ?_⟩⟩
    rw [show inB 0 (9 - 1) p = true by unfold inB; rw [decide_eq_true p0, decide_eq_true (show p ≤ 9 - 1 by omega)]; rfl]
    exact iteF k
theorem scTy : FnScope ["self", "page", "trial"] ["self", "page"] (defScope s_Lead_tidy) := ⟨rfl, rfl, rfl, by decide +kernel, rfl, by decide +kernel, by decide +kernel⟩
def spTidy (A : Ad) (K : PySem.W.Frag) (tp : Nat → Addr) : Sp := fun vs H Q _ => ∃ (l : Addr) (a : La) (t : TT) (n : Nat) (m : M) (p e : Int), vs = [.ref l, .int p] ∧ LeadAt A K H l a t n m ∧ Tg (tL tp) H ∧ 0 ≤ p ∧ p ≤ 8 ∧ n ≤ 14000 ∧ Enough m (e + 16) ∧ 0 ≤ e ∧ LdQ A K tp H l a t (n + 4) e (Q .non)
theorem ok_tidy (T : Txt K mg A) (TB : TbsB base mg A tp) : ∃ fd, FnOk P w K mg base CX0 12 (A.m 55 8) fd ["self", "page"] (spTidy A K tp) ∧ Binds K fd ["self", "page"] [] := by
  obtain ⟨fd, F⟩ := T.m_Lead_tidy.fn
  obtain ⟨fdW, Gcheck_page, bcheck_page⟩ := ok_check_page (P := P) (w := w) (base := base) T
  obtain ⟨fd1, G_Table_twin, b_Table_twin⟩ := ok_twin (P := P) (w := w) (base := base) T
  obtain ⟨fd2, G_Table_shed, b_Table_shed⟩ := ok_shed (P := P) (w := w) (base := base) T TB
  obtain ⟨fd3, G_Table_kept, b_Table_kept⟩ := ok_kept (P := P) (w := w) (base := base) T TB
  obtain ⟨fd4, G_Lead_change_over, b_Lead_change_over⟩ := ok_change_over (P := P) (w := w) (base := base) (tp := tp) T TB
  refine ⟨fd, F.ok scTy (fun vs H Q E h => ?_) (fun cdv Ar outer s H vs Q E hr h => ?_), F.binds fun _ _ _ _ _ _ us hl => match us, hl with | [_, _], _ => rfl⟩
  · obtain ⟨l, a, t, n, m, p, e, rfl, _⟩ := h
    rfl
  · obtain ⟨l, a, t, n, m, p, e, rfl, L, TG, p0, p8, hn, en, he, k⟩ := h
    refine ⟨_, (pss_cons (ps_expr (pe_call Gcheck_page (hr.mono (by first | decide | omega)) rfl T.check_page.at_ T.check_page.kp bcheck_page .nil pass0 (pa_cons (pv 1) pa_nil)))
      (pss_cons (ps_set (i := 2) scTy.nd rfl (Or.inl rfl) (pe_meth0 (pe_fld (pv 0) rfl) T.cl_Table T.m_Table_twin.me G_Table_twin (hr.mono (by first | decide | omega)) b_Table_twin .nil pass0))
      (pss_cons (ps_expr (pe_meth (pv 2) T.cl_Table T.m_Table_shed.me G_Table_shed (hr.mono (by first | decide | omega)) b_Table_shed .nil pass0 (pa_cons (pv 1) pa_nil)))
      (pss_one (ps_expr (pe_meth (pv 0) T.cl_Lead T.m_Lead_change_over.me G_Lead_change_over (hr.mono (by first | decide | omega)) b_Lead_change_over .nil pass0 (pa_cons (pv 2) (pa_cons (pe_lst (pa_cons (pe_tup (pa_cons (pv 1) (pa_cons (pe_meth (pv 2) T.cl_Table T.m_Table_kept.me G_Table_kept (hr.mono (by first | decide | omega)) b_Table_kept .nil pass0 (pa_cons (pv 1) pa_nil)) pa_nil))) pa_nil)) (pa_cons (pe_lst pa_nil) pa_nil))))))))), ?_⟩
    obtain ⟨dx, hs, el⟩ := L.at_
    obtain ⟨dx2, e2⟩ := L.tab.at_
    refine ⟨_, rfl, p, rfl, p0, p8, ?_⟩
    -- trial = self.table.twin()
    refine ⟨_, rfl, l, A.c 55, dx, _, _, rfl, el, T.cl_Lead, T.n_Lead_table, l_table .., a.tb, dx2, _, rfl, e2, rfl, a.tb, a.rw, a.hd, a.gn, t, n, rfl, L.tab, fun G1 tb rw hd gn nt nr nh ng TB1 k1 => ?_⟩
    have hnew : ∀ b, tF tb rw hd gn b → H b = none := fun b z => by
      rcases z with z | z | z | z <;> rw [z] <;> assumption
    obtain ⟨dx3, e3⟩ := TB1.at_
    -- trial.shed(page)
    refine ⟨_, rfl, tb, dx3, _, rfl, e3, rfl, _, rfl, tb, rw, hd, gn, t, n, p, rfl, TB1, TG.kp k1, p0, p8, hn, fun G3 TB3 k3 => ?_⟩
    have k13 : Kg (tL tp) No H G3 := by
      have := ((Kg.of k1).sub (F' := fun b => b = rw) fun _ z => False.elim z).trans k3 fun b z => .inl z
      exact this.fresh fun b z => by rw [z]; exact nr
    have L3 := L.kt k13.t fun _ z => False.elim z
    obtain ⟨dx4, hs4, el4⟩ := L3.at_
    obtain ⟨dx6, e6⟩ := TB3.at_
    -- self.change_over(trial, [(page, trial.kept(page))], [])
    refine ⟨_, rfl, l, dx4, _, rfl, el4, rfl, _, rfl, _, rfl, _, rfl, tb, dx6, _, rfl, e6, rfl, _, rfl, tb, rw, hd, gn, t, n + 4, p, rfl, TB3, TG.kg k13, p0, p8, fun G4 c nc k4 hc => ⟨sz 2 (by decide), fun u nu => ⟨sz 1 (by decide), fun lp nlp => ⟨sz 0 (by decide), fun le nle => ?_⟩⟩⟩⟩
    have n1 : upd (upd G4 u (.tup [.int p, .ref c])) lp (.lst [.ref u]) le = none := nle
    have ku : Kp No G4 (upd (upd (upd G4 u (.tup [.int p, .ref c])) lp (.lst [.ref u])) le (.lst [])) := ((Kp.new nu).andN nlp).andN nle
    have hlp : upd (upd (upd G4 u (.tup [.int p, .ref c])) lp (.lst [.ref u])) le (.lst []) lp = some (.lst [.ref u]) := by rw [upd_ne (upd_none nle).1.symm, upd_same]
    have hu : upd (upd (upd G4 u (.tup [.int p, .ref c])) lp (.lst [.ref u])) le (.lst []) u = some (.tup [.int p, .ref c]) := by rw [upd_ne (upd_none (upd_none nle).2).1.symm, upd_ne (upd_none nlp).1.symm, upd_same]
    have hle : upd (upd (upd G4 u (.tup [.int p, .ref c])) lp (.lst [.ref u])) le (.lst []) le = some (.lst []) := upd_same
    unfold tNil
    show spChange A K tp [.ref l, .ref tb, .ref lp, .ref le] (upd (upd (upd G4 u (.tup [.int p, .ref c])) lp (.lst [.ref u])) le (.lst [])) _ _
    generalize upd (upd (upd G4 u (.tup [.int p, .ref c])) lp (.lst [.ref u])) le (.lst []) = G5 at ku hu hle hlp ⊢
    have k14 : Kg (tL tp) No H G4 := k13.trans k4 fun _ z => False.elim z
    have k15 : Kg (tL tp) No H G5 := k14.trans (Kg.of ku) fun _ z => False.elim z
    have nlF : ∀ b, H b = none → ¬ lF l a b := fun b z y => by
      obtain ⟨o, eo⟩ := L.there y
      rw [z] at eo; cases eo
    have nlp5 : ¬ lF l a lp := nlF _ (k14.free (upd_none nlp).2 fun z => False.elim z)
    have nle5 : ¬ lF l a le := nlF _ (k14.free (upd_none (upd_none nle).2).2 fun z => False.elim z)
    refine ⟨l, a, t, n, m, tb, rw, hd, gn, _, _, lp, le, [.ref u], [], e, rfl, L.kt k15.t (fun _ z => False.elim z), (TB3.no k4.t).no ku.t, TG.kg k15, hlp, (fun v hv => ?_), (by show 1 ≤ 9; decide), hle, (fun v hv => nomatch hv), (by show 0 ≤ 4; decide), en, he, nlp5, nle5, (fun b z => nlF b (hnew b z)), fun G a' m' LG q1 q2 q3 q4 kG qc qb qs => fin_change k k15 hnew LG q1 q2 q4 kG ⟨qc, qb, qs⟩⟩
    rw [List.mem_singleton.mp hv]
    exact ⟨u, p, c, rfl, hu, p0, p8, hc.kt ku.t⟩
end
end S02

set_option Elab.async false
set_option linter.all false
set_option maxRecDepth 100000
set_option maxHeartbeats 4000000
namespace S02
open PySem PySem.Spec PyProof.Rows L2 K5 SupX GenX
/-- a dict of the four hands' last letters -/
def AhAt (H : Hp) (D : Addr) (f : Int → Int) (n : Nat) : Prop := ∃ kvs, H D = some (.dK kvs) ∧ kvs.length ≤ n ∧ ∀ j : Int, 0 ≤ j → j ≤ 3 → valV kvs (.inl j : Key) = some (.int (f j))
theorem AhAt.put {H : Hp} {D : Addr} {f : Int → Int} {n : Nat} {kvs : List (Key × V)} {j x : Int} (h : AhAt H D f n) (hd : H D = some (.dK kvs)) : AhAt (upd H D (.dK (putK kvs (.inl j) (.int x)))) D (setL f j x) (n + 1) := by
  obtain ⟨kv2, e1, l, q⟩ := h
  obtain rfl : kvs = kv2 := by rw [e1] at hd; cases hd; rfl
  refine ⟨_, upd_same, Nat.le_trans (length_putK _ _ _) (by omega), fun i h0 h3 => ?_⟩
  rw [valV_put]
  unfold setL
  by_cases hj : i = j
  · rw [if_pos hj, if_pos (by rw [hj])]
  · rw [if_neg hj, if_neg (fun z => hj (Sum.inl.inj z))]
    exact q i h0 h3
section
variable {P : Program} {w : World} {K : PySem.W.Frag} {mg : Str → Option Value} {base : Heap} {A : Ad} {tp : Nat → Addr} {nr pl B C fI : Addr}
abbrev NscGr : List Str := ["self", "group", "hand", "ahead", "letter", "deeds"]
theorem scGr : FnScope NscGr ["self", "group"] (defScope s_Lead_check_group) := ⟨rfl, rfl, rfl, by decide +kernel, rfl, by decide +kernel, by decide +kernel⟩
def spGroup (A : Ad) (K : PySem.W.Frag) : Sp := fun vs H Q _ => ∃ (l : Addr) (a : La) (t : TT) (n : Nat) (m : M) (gp : Addr) (xs : List V) (gs : List Gd), vs = [.ref l, .ref gp] ∧ LeadAt A K H l a t n m ∧ H gp = some (.lst xs) ∧ Paired (GdAt H) xs gs ∧ gs.length ≤ 4 ∧ okG (lastL t.hands) gs ∧ ∀ G, Kp No H G → Q .non G
theorem ok_check_group (T : Txt K mg A) (X : Ex P w K mg A B C fI) (htop : (P.main.scope.names.lookup ("super" : Str)).isSome = false) : ∃ fd, FnOk P w K mg base CX0 4 (A.m 55 18) fd ["self", "group"] (spGroup A K) ∧ Binds K fd ["self", "group"] [] := by
  obtain ⟨fd, F⟩ := T.m_Lead_check_group.fn
  obtain ⟨fdW, Gwithin, bwithin⟩ := ok_within (P := P) (w := w) (base := base) T
  obtain ⟨fdH, Gcheck_hand, bcheck_hand⟩ := ok_check_hand (P := P) (w := w) (base := base) T
  obtain ⟨fdD, Gcheck_deal, bcheck_deal⟩ := ok_check_deal (P := P) (w := w) (base := base) T X htop
  obtain ⟨fdL, G_Table_last_letter, b_Table_last_letter⟩ := ok_last_letter (P := P) (w := w) (base := base) T
  refine ⟨fd, F.ok scGr (fun vs H Q E h => ?_) (fun cdv Ar outer s H vs Q E hr h => ?_), F.binds fun _ _ _ _ _ _ us hl => match us, hl with | [_, _], _ => rfl⟩
  · obtain ⟨l, a, t, n, m, gp, xs, gs, rfl, _⟩ := h
    rfl
  · obtain ⟨l, a, t, n, m, gp, xs, gs, rfl, L, hgp, hgs, l4, hok, k⟩ := h
    have hu := hu_of hr
    refine ⟨_, (pss_cons (ps_if (pt_cmpR op_gt (pe_callB call_len_seq (by rfl) T.len PySem.boot_len (pa_cons (pv 1) pa_nil)) (pe_glob (v := .int 4) rfl T.k_MOST_DEALS.choose_spec ⟨_, rfl⟩) (nomark _))
        (pss_one ps_never)
        pss_nil)
      (pss_cons (ps_setDc (i := 3) (own := [("hand", 2)]) (g := gName 2) (tt := tYes) (tk := tVar 2) (tv := tMeth (A.c 44) "last_letter" (spLast A) [] E0 (tFld K (tVar 0) "table") (tCons (tVar 2) tNil)) (by rfl) scGr.nd rfl rfl (sw_trueD rfl rfl rfl (by decide +kernel)) (pi_range1 (by rfl) T.range (pa_cons (pe_op op_add (pe_glob (v := .int 3) rfl T.k_LAST_HAND.choose_spec ⟨_, rfl⟩) pe_int) pa_nil)) (blkOk_by (N := NscGr) (sc := defScope s_Lead_check_group) (by decide +kernel)) (fun _ _ _ _ _ => pg_name (i := 2) scGr.nd rfl (Or.inl rfl)) (fun _ _ _ _ _ => pts_nil) (fun _ _ _ _ _ => pv 2) (fun _ _ _ _ _ => by exact pe_meth (pe_fld (pv 0) rfl) T.cl_Table T.m_Table_last_letter.me G_Table_last_letter (hr.mono (by decide)) b_Table_last_letter .nil pass0 (pa_cons (pv 2) pa_nil)))
      (pss_one (ps_for PassesOwn.never rfl (pi_list (pv 1)) (pg_tup rfl (pgs_cons (pg_name (i := 2) scGr.nd rfl (Or.inl rfl)) (pgs_cons (pg_name (i := 4) scGr.nd rfl (Or.inl rfl)) (pgs_cons (pg_name (i := 5) scGr.nd rfl (Or.inl rfl)) pgs_nil))))
        (pss_cons (ps_expr (pe_call (E := fun _ _ _ => False) Gcheck_hand (hr.mono (by first | decide | omega)) rfl T.check_hand.at_ T.check_hand.kp bcheck_hand .nil (L2N.passes_call takesN0 fun _ _ _ _ h => h) (pa_cons (pv 2) pa_nil)))
        (pss_cons (ps_if (pt_not (pt_val (pe_call Gwithin (hr.mono (by first | decide | omega)) rfl T.within.at_ T.within.kp bwithin .nil pass0 (pa_cons (pv 4) (pa_cons (pe_callB (call_max2 rfl) (by rfl) T.max (by decide +kernel) (pa_cons pe_int (pa_cons (pe_dget hu (pv 3) (pv 2) (fun _ _ => rfl)) pa_nil))) (pa_cons (pe_op op_add (pe_dget hu (pv 3) (pv 2) (fun _ _ => rfl)) pe_int) pa_nil))))))
          (pss_one ps_never)
          pss_nil)
        (pss_cons (ps_expr (pe_call (E := fun _ _ _ => False) Gcheck_deal (hr.mono (by first | decide | omega)) rfl T.check_deal.at_ T.check_deal.kp bcheck_deal .nil (L2N.passes_call takesN0 fun _ _ _ _ h => h) (pa_cons (pv 5) pa_nil)))
        (pss_one (ps_dput hu (pv 3) (pv 2) (pv 4) rfl))))))))), ?_⟩
    obtain ⟨dx, hs, el⟩ := L.at_
    obtain ⟨dx2, e2⟩ := L.tab.at_
    have hxl : xs.length ≤ 4 := by rw [hgs.length]; exact l4
    refine ⟨_, rfl, gp, xs, rfl, .inl (SqL.of hgp), _, _, rfl, rfl, _, rfl, ?_⟩
    rw [decide_eq_false (show ¬ (4 : Int) < (xs.length : Int) by omega)]
    refine iteF ⟨_, _, rfl, rfl, 4, rfl, by decide, by decide, fun D nD => ?_⟩
    have nfD : ∀ b, b = D → ¬ lF l a b := fun b z y => by
      obtain ⟨o, eo⟩ := L.there y
      rw [z, nD] at eo; cases eo
    refine dc_rng (lo := 0) (n := (4 : Int).toNat) (fun i J => Kp (fun b => b = D) H J ∧ ∃ kvs, J D = some (.dK kvs) ∧ kvs.length ≤ i ∧ ∀ j : Int, 0 ≤ j → j < i → valV kvs (.inl j : Key) = some (.int (lastL t.hands j))) ⟨Kp.new nD, [], upd_same, Nat.le_refl _, fun j h0 h1 => by omega⟩ ?_ ?_
    · rintro i J hi ⟨kJ, kvs, hD, hl, hv⟩
      have LJ := L.kt kJ.t nfD
      obtain ⟨dxJ, hsJ, eJ⟩ := LJ.at_
      obtain ⟨dx2J, e2J⟩ := LJ.tab.at_
      refine ⟨rfl, _, rfl, _, rfl, l, A.c 55, dxJ, _, _, rfl, eJ, T.cl_Lead, T.n_Lead_table, l_table .., a.tb, dx2J, _, rfl, e2J, rfl, _, rfl, a.tb, a.rw, a.hd, a.gn, t, n, 0 + (i : Nat), rfl, LJ.tab, kvs, .inl (0 + (i : Int)), rfl, hD, szL (by omega), kJ.andD hD rfl, _, upd_same, Nat.le_trans (length_putK _ _ _) (by omega), fun j h0 h1 => ?_⟩
      rw [valV_put]
      by_cases hj : (.inl j : Key) = .inl (0 + (i : Int))
      · rw [if_pos hj]
        have := Sum.inl.inj hj
        rw [this]
      · rw [if_neg hj]
        have hj' : j ≠ 0 + (i : Int) := fun z => hj (by rw [z])
        exact hv j h0 (by omega)
    · rintro J ⟨kJ, kvs, hD, hl, hv⟩
      have AJ : AhAt J D (lastL t.hands) 4 := ⟨kvs, hD, hl, fun j h0 h3 => hv j h0 (by show j < ((4 : Nat) : Int); omega)⟩
      have ngD : gp ≠ D := fun z => by rw [z, nD] at hgp; cases hgp
      refine ⟨_, rfl, gp, rfl, ⟨_, SqL.of (kJ.t.lst hgp ngD)⟩, for_list (K := K) (a := gp) (xs := xs) (fun i σ I => ∃ o1 o2 o3, σ = [some (.ref l), some (.ref gp), o1, some (.ref D), o2, o3] ∧ Kp (fun b => b = D) H I ∧ AhAt I D ((gs.take i).foldl (fun f g => setL f g.hd g.x) (lastL t.hands)) (4 + i)) ⟨_, _, _, rfl, kJ, AJ⟩ (fun i σ I _ ⟨_, _, _, _, kI, _⟩ => SqL.of (kI.t.lst hgp ngD)) ?_ ?_⟩
      · rintro i x σ I hx ⟨o1, o2, o3, rfl, kI, AI⟩
        obtain ⟨g, hg, u, dv, rfl, hu2, hds⟩ := paired_at hgs hx
        obtain ⟨f', okf, ef⟩ := hok.drop i g hg
        rw [← ef] at AI
        have hi : i < xs.length := (List.getElem?_eq_some_iff.mp hx).1
        obtain ⟨g0, g3, x1, x2, x3, gb, g4, _⟩ := okf
        have AI' := AI
        obtain ⟨kv, hDI, lI, vI⟩ := AI'
        have dg : DGet I D (.int g.hd) (some (.int (f' g.hd))) := by
          have := DGet.k (k := Sum.inl g.hd) hDI
          rw [vI _ g0 g3] at this
          exact this
        refine ⟨u, _, rfl, SqT.of (kI.t.tup hu2), rfl, _, _, rfl, _, _, rfl, _, _, rfl, rfl, ?_⟩
        refine ⟨_, rfl, g.hd, rfl, fun _ => ?_, fun z => ?_⟩
        · refine ⟨_, rfl, _, rfl, _, rfl, D, _, rfl, dg, _, _, rfl, _, rfl, _, rfl, D, _, rfl, dg, _, _, rfl, rfl, _, _, _, rfl, .inl ⟨g.x, rfl, _, rfl, ?_⟩⟩
          have hin : inB (if f' g.hd > 1 then f' g.hd else 1) (f' g.hd + 1) g.x = true := by
            unfold inB
            rw [decide_eq_true (show g.x ≤ f' g.hd + 1 from x3), Bool.and_true, decide_eq_true_eq]
            split <;> omega
          rw [hin]
          refine iteF ⟨_, rfl, dv, g.ds, rfl, hds.kt kI.t, fun I2 k2 => ⟨fun _ => ?_, fun p z => by rw [gb] at z; cases z⟩⟩
          have hD2 := k2.t.dK hDI fun z => z
          have A2 : AhAt I2 D f' (4 + i) := ⟨kv, hD2, lI, vI⟩
          refine ⟨_, rfl, _, rfl, _, rfl, D, _, rfl, DPut.k (k := Sum.inl g.hd) hD2 (szL (by omega)), _, _, _, rfl, ((kI.trans k2 fun _ z => False.elim z).andD hD2 rfl), ?_⟩
          have e1 : (gs.take (i + 1)).foldl (fun f g => setL f g.hd g.x) (lastL t.hands) = setL f' g.hd g.x := by
            rw [take_snoc hg, List.foldl_append, ← ef]
            rfl
          rw [e1]
          exact A2.put hD2
        · have : inB 0 3 g.hd = true := by unfold inB; rw [decide_eq_true g0, decide_eq_true g3]; rfl
          rw [this] at z; cases z
      · rintro σ I ⟨o1, o2, o3, rfl, kI, _⟩
        exact k I (kp_fresh kI fun b z => by rw [z]; exact nD)
end
end S02

set_option Elab.async false
set_option linter.all false
set_option maxRecDepth 100000
set_option maxHeartbeats 4000000
namespace S02
open PySem PySem.Spec PyProof.Rows L2 K5 SupX GenX
def dl1 (t : TT) (g : Gd) : TT := if g.x = lastL t.hands g.hd then t else t.next (.deal g.hd g.x g.ds)
def dlT (t : TT) (gs : List Gd) : TT := gs.foldl dl1 t
def toldOf (t : TT) (h : Int) : Int × Bool := match t.hands h with
  | some x => x.2
  | none => (0, false)
def tolds : TT → List Gd → List (Int × Bool)
  | _, [] => []
  | t, g :: gs => toldOf (dl1 t g) g.hd :: tolds (dl1 t g) gs
theorem tolds_snoc : ∀ (gs : List Gd) (t : TT) (g : Gd), tolds t (gs ++ [g]) = tolds t gs ++ [toldOf (dl1 (dlT t gs) g) g.hd]
  | [], _, _ => rfl
  | a :: gs, t, g => congrArg (toldOf (dl1 t a) a.hd :: ·) (tolds_snoc gs (dl1 t a) g)
theorem tolds_len : ∀ (gs : List Gd) (t : TT), (tolds t gs).length = gs.length
  | [], _ => rfl
  | a :: gs, t => by rw [tolds, List.length_cons, List.length_cons, tolds_len gs]
theorem dlT_snoc (t : TT) (gs : List Gd) (g : Gd) : dlT t (gs ++ [g]) = dl1 (dlT t gs) g := by
  unfold dlT
  rw [List.foldl_append]
  rfl
theorem dl1_last (t : TT) (g : Gd) : ∀ j, lastL (dl1 t g).hands j = if j = g.hd then g.x else lastL t.hands j := by
  intro j
  unfold dl1
  by_cases h : g.x = lastL t.hands g.hd
  · rw [if_pos h]
    by_cases hj : j = g.hd
    · rw [if_pos hj, hj, h]
    · rw [if_neg hj]
  · rw [if_neg h]
    unfold TT.next lastL Hn.set
    dsimp only
    by_cases hj : j = g.hd
    · rw [if_pos hj, if_pos hj]
    · rw [if_neg hj, if_neg hj]
theorem dlT_last (gs : List Gd) : ∀ t : TT, lastL (dlT t gs).hands = gs.foldl (fun f g => setL f g.hd g.x) (lastL t.hands) := by
  induction gs with
  | nil => intro t; rfl
  | cons g gs ih =>
    intro t
    show lastL (dlT (dl1 t g) gs).hands = gs.foldl _ (setL (lastL t.hands) g.hd g.x)
    rw [ih]
    congr 1
    funext j
    exact dl1_last t g j
theorem dl1_hand (t : TT) (g : Gd) (h1 : 1 ≤ g.x) : ∃ num b, (dl1 t g).hands g.hd = some (g.x, num, b) := by
  unfold dl1
  by_cases h : g.x = lastL t.hands g.hd
  · rw [if_pos h]
    unfold lastL at h
    cases e : t.hands g.hd with
    | none => rw [e] at h; have h : g.x = 0 := h; omega
    | some y =>
      rw [e] at h
      exact ⟨y.2.1, y.2.2, by rw [h]⟩
  · rw [if_neg h]
    refine ⟨t.num + 1, (steps t.mom t.rows g.ds).isSome, ?_⟩
    unfold TT.next Hn.set
    exact if_pos rfl
theorem dl1_num (t : TT) (g : Gd) : t.num ≤ (dl1 t g).num := by
  unfold dl1
  split
  · exact Int.le_refl _
  · show t.num ≤ t.num + 1
    omega
/-- a told number, and whether it was done -/
def TpAt (H : Hp) (v : V) (x : Int × Bool) : Prop := ∃ u, v = .ref u ∧ H u = some (.tup [.int x.1, .bl x.2])
theorem TpAt.kt {F : Addr → Prop} {H G : Hp} (k : Kt F H G) {v : V} {x : Int × Bool} (h : TpAt H v x) : TpAt G v x := let ⟨u, e, q⟩ := h; ⟨u, e, k.tup q⟩
structure DsI (A : Ad) (H J : Hp) (t : TT) (n : Nat) (tb hd gn en to : Addr) (tt : TT) (c : Nat) (tl : List (Int × Bool)) : Prop where
  ex : ∃ rw es vs, H rw = none ∧ TabAt A J tb rw hd gn tt (n + 5 * c) ∧ J en = some (.lst es) ∧ (∀ v ∈ es, EnV J v) ∧ es.length ≤ c ∧ (es = [] → tt = t) ∧ J to = some (.lst vs) ∧ Paired (TpAt J) vs tl
  kp : Kp No H J
  num : 0 ≤ tt.num
theorem DsI.le {A : Ad} {H J : Hp} {t : TT} {n : Nat} {tb hd gn en to : Addr} {tt : TT} {c d : Nat} {tl : List (Int × Bool)} (h : DsI A H J t n tb hd gn en to tt c tl) (l : c ≤ d) : DsI A H J t n tb hd gn en to tt d tl := by
  obtain ⟨rw, es, vs, h1, h2, h3, h4, h5, h6, h7, h8⟩ := h.ex
  exact ⟨⟨rw, es, vs, h1, h2.le (by omega), h3, h4, Nat.le_trans h5 l, h6, h7, h8⟩, h.kp, h.num⟩
section
variable {P : Program} {w : World} {K : PySem.W.Frag} {mg : Str → Option Value} {base : Heap} {A : Ad} {tp : Nat → Addr} {nr pl B C fI : Addr}
theorem scDs : FnScope ["self", "group", "trial", "entries", "told", "hand", "letter", "deeds", "entry"] ["self", "group"] (defScope s_Lead_deals) := ⟨rfl, rfl, rfl, by decide +kernel, rfl, by decide +kernel, by decide +kernel⟩
def spDeals (A : Ad) (K : PySem.W.Frag) (tp : Nat → Addr) : Sp := fun vs H Q _ => ∃ (l : Addr) (a : La) (t : TT) (n : Nat) (m : M) (gp : Addr) (xs : List V) (gs : List Gd) (e : Int), vs = [.ref l, .ref gp] ∧ LeadAt A K H l a t n m ∧ Tg (tL tp) H ∧ H gp = some (.lst xs) ∧ Paired (GdAt H) xs gs ∧ gs.length ≤ 4 ∧ okG (lastL t.hands) gs ∧ n ≤ 13000 ∧ 0 ≤ t.num ∧ (gs = [] ∨ Enough m (e + 16)) ∧ (gs = [] → Enough m e) ∧ 0 ≤ e ∧
  ∀ G a' m' to vs, LeadAt A K G l a' (dlT t gs) (n + 20) m' → Enough m' e → a'.d = a.d → (∀ b, lF l a' b → lF l a b ∨ H b = none) → Kg (tL tp) (lF l a) H G → (a'.cs = a.cs ∧ a'.bg = a.bg ∧ a'.sh = a.sh) → H to = none → ¬ lF l a' to → G to = some (.lst vs) → Paired (TpAt G) vs (tolds t gs) → Q (.ref to) G
theorem ok_deals (T : Txt K mg A) (TB : TbsB base mg A tp) (X : Ex P w K mg A B C fI) (htop : (P.main.scope.names.lookup ("super" : Str)).isSome = false) : ∃ fd, FnOk P w K mg base CX0 12 (A.m 55 3) fd ["self", "group"] (spDeals A K tp) ∧ Binds K fd ["self", "group"] [] := by
  obtain ⟨fd, F⟩ := T.m_Lead_deals.fn
  obtain ⟨fd0, G_Lead_check_group, b_Lead_check_group⟩ := ok_check_group (P := P) (w := w) (base := base) T X htop
  obtain ⟨fd1, G_Table_twin, b_Table_twin⟩ := ok_twin (P := P) (w := w) (base := base) T
  obtain ⟨fd2, G_Table_take, b_Table_take⟩ := ok_takeT (P := P) (w := w) (base := base) T X
  obtain ⟨fd3, G_Table_unlike, b_Table_unlike⟩ := ok_unlike (P := P) (w := w) (base := base) T TB
  obtain ⟨fdL, G_Table_last_letter, b_Table_last_letter⟩ := ok_last_letter (P := P) (w := w) (base := base) T
  obtain ⟨fd4, G_Lead_change_over, b_Lead_change_over⟩ := ok_change_over (P := P) (w := w) (base := base) (tp := tp) T TB
  refine ⟨fd, F.ok scDs (fun vs H Q E h => ?_) (fun cdv Ar outer s H vs Q E hr h => ?_), F.binds fun _ _ _ _ _ _ us hl => match us, hl with | [_, _], _ => rfl⟩
  · obtain ⟨l, a, t, n, m, gp, xs, gs, e, rfl, _⟩ := h
    rfl
  · obtain ⟨l, a, t, n, m, gp, xs, gs, e, rfl, L, TG, hgp, hgs, l4, hok, hn, hnu, hen, hen0, he, k⟩ := h
    have hu := hu_of hr
    refine ⟨_, (pss_cons (ps_expr (pe_meth (pv 0) T.cl_Lead T.m_Lead_check_group.me G_Lead_check_group (hr.mono (by first | decide | omega)) b_Lead_check_group .nil pass0 (pa_cons (pv 1) pa_nil)))
      (pss_cons (ps_set (i := 2) scDs.nd rfl (Or.inl rfl) (pe_meth0 (pe_fld (pv 0) rfl) T.cl_Table T.m_Table_twin.me G_Table_twin (hr.mono (by first | decide | omega)) b_Table_twin .nil pass0))
      (pss_cons (ps_set (i := 3) scDs.nd rfl (Or.inl rfl) (pe_lst pa_nil))
      (pss_cons (ps_set (i := 4) scDs.nd rfl (Or.inl rfl) (pe_lst pa_nil))
      (C8.pss_cut (ps_for PassesOwn.never rfl (pi_list (pv 1)) (pg_tup rfl (pgs_cons (pg_name (i := 5) scDs.nd rfl (Or.inl rfl)) (pgs_cons (pg_name (i := 6) scDs.nd rfl (Or.inl rfl)) (pgs_cons (pg_name (i := 7) scDs.nd rfl (Or.inl rfl)) pgs_nil))))
        (C8.pss_cut (ps_if (pt_cmpR op_ne (pv 6) (pe_meth (pv 2) T.cl_Table T.m_Table_last_letter.me G_Table_last_letter (hr.mono (by first | decide | omega)) b_Table_last_letter .nil pass0 (pa_cons (pv 5) pa_nil)) (nomark _))
          (pss_cons (ps_set (i := 8) scDs.nd rfl (Or.inl rfl) (pe_tup (pa_cons pe_str (pa_cons (pv 5) (pa_cons (pv 6) (pa_cons (pv 7) pa_nil))))))
          (pss_cons (ps_expr (pe_meth (pv 2) T.cl_Table T.m_Table_take.me G_Table_take (hr.mono (by first | decide | omega)) b_Table_take .nil pass0 (pa_cons (pv 8) pa_nil)))
          (pss_one (ps_expr (pe_bm PySem.F.plainAttrs_list PySem.F.slot_list_append PySem.F.type_list_append mt_append (pv 3) (pa_cons (pe_tup (pa_cons (pe_fld (pv 2) rfl) (pa_cons (pv 8) pa_nil))) pa_nil))))))
          pss_nil)
        (pss_one (ps_expr (pe_bm PySem.F.plainAttrs_list PySem.F.slot_list_append PySem.F.type_list_append mt_append (pv 4) (pa_cons (pe_slice sl_tup (pe_dget hu (pe_fld (pv 2) rfl) (pv 5) (fun _ _ => rfl)) (po_some pe_int) po_none) pa_nil))))))
      (C8.pss_cut (ps_if (pt_truth (pv 3) (by intro _; rfl))
        (pss_one (ps_expr (pe_meth (pv 0) T.cl_Lead T.m_Lead_change_over.me G_Lead_change_over (hr.mono (by first | decide | omega)) b_Lead_change_over .nil pass0 (pa_cons (pv 2) (pa_cons (pe_meth (pe_fld (pv 0) rfl) T.cl_Table T.m_Table_unlike.me G_Table_unlike (hr.mono (by first | decide | omega)) b_Table_unlike .nil pass0 (pa_cons (pv 2) pa_nil)) (pa_cons (pv 3) pa_nil))))))
        pss_nil)
      (pss_one (ps_ret (pv 4))))))))), ?_⟩
    obtain ⟨dx, hs, el⟩ := L.at_
    refine ⟨_, rfl, l, dx, _, rfl, el, rfl, _, rfl, l, a, t, n, m, gp, xs, gs, rfl, L, hgp, hgs, l4, hok, fun G0 k0 => ?_⟩
    have L0 := L.kt k0.t fun _ z => False.elim z
    obtain ⟨dx0, hs0, el0⟩ := L0.at_
    obtain ⟨dx2, e2⟩ := L0.tab.at_
    -- trial = self.table.twin()
    refine ⟨_, rfl, l, A.c 55, dx0, _, _, rfl, el0, T.cl_Lead, T.n_Lead_table, l_table .., a.tb, dx2, _, rfl, e2, rfl, a.tb, a.rw, a.hd, a.gn, t, n, rfl, L0.tab, fun G1 tb rw hd gn nt nr nh ng TB1 k1 => ?_⟩
    have k01 : Kp No H G1 := k0.trans k1 fun _ z => False.elim z
    refine ⟨sz 0 (by decide), fun en nen => ⟨sz 0 (by decide), fun to nto => ?_⟩⟩
    have kl : Kp No G1 (upd (upd G1 en (.lst [])) to (.lst [])) := (Kp.new nen).andN nto
    have hen1 : upd (upd G1 en (.lst [])) to (.lst []) en = some (.lst []) := by rw [upd_ne (upd_none nto).1.symm, upd_same]
    have hto1 : upd (upd G1 en (.lst [])) to (.lst []) to = some (.lst []) := upd_same
    have nte : to ≠ en := (upd_none nto).1
    show C8.tCut _ _ _ _ (upd (upd G1 en (.lst [])) to (.lst []))
    generalize upd (upd G1 en (.lst [])) to (.lst []) = G2 at kl hen1 hto1 ⊢
    have k02 : Kp No H G2 := k01.trans kl fun _ z => False.elim z
    have ntbH : H tb = none := k0.free nt fun z => False.elim z
    have nrwH : H rw = none := k0.free nr fun z => False.elim z
    have nhdH : H hd = none := k0.free nh fun z => False.elim z
    have ngnH : H gn = none := k0.free ng fun z => False.elim z
    have nenH : H en = none := k01.free nen fun z => False.elim z
    have ntoH : H to = none := k01.free (upd_none nto).2 fun z => False.elim z
    have B0 : DsI A H G2 t n tb hd gn en to t 0 [] := ⟨⟨rw, [], [], nrwH, TB1.no kl.t, hen1, (fun v hv => nomatch hv), Nat.le_refl _, fun _ => rfl, hto1, .nil⟩, k02, hnu⟩
    refine ⟨fun σ J => ∃ o1 o2 o3 o4, σ = [some (.ref l), some (.ref gp), some (.ref tb), some (.ref en), some (.ref to), o1, o2, o3, o4] ∧ DsI A H J t n tb hd gn en to (dlT t gs) gs.length (tolds t gs), ?_, ?_⟩
    · refine ⟨_, rfl, gp, rfl, ⟨_, SqL.of (k02.t.lst hgp fun z => z)⟩, for_list (K := K) (a := gp) (xs := xs) (fun i σ J => ∃ o1 o2 o3 o4, σ = [some (.ref l), some (.ref gp), some (.ref tb), some (.ref en), some (.ref to), o1, o2, o3, o4] ∧ DsI A H J t n tb hd gn en to (dlT t (gs.take i)) i (tolds t (gs.take i))) ⟨_, _, _, _, rfl, by rw [List.take_zero]; exact B0⟩ (fun i σ J _ ⟨_, _, _, _, _, I⟩ => SqL.of (I.kp.t.lst hgp fun z => z)) ?_ ?_⟩
      · rintro i x σ J hx ⟨o1, o2, o3, o4, rfl, I⟩
        obtain ⟨g, hg, u, dv, rfl, hu2, hds⟩ := paired_at hgs hx
        obtain ⟨f', okf, ef⟩ := hok.drop i g hg
        obtain ⟨g0, g3, x1, x2, x3, gb, g4, _⟩ := okf
        have hi : i < 4 := by
          have := (List.getElem?_eq_some_iff.mp hx).1
          rw [hgs.length] at this
          omega
        obtain ⟨rw1, es, vs, nrw1, TJ, eJ, hes, les, hes0, tJ, pJ⟩ := I.ex
        have kJ := I.kp
        refine ⟨u, _, rfl, SqT.of (kJ.t.tup hu2), rfl, _, _, rfl, _, _, rfl, _, _, rfl, rfl, ?_⟩
        -- if letter != trial.last_letter(hand)
        refine ⟨fun σ J' => ∃ o4, σ = [some (.ref l), some (.ref gp), some (.ref tb), some (.ref en), some (.ref to), some (.int g.hd), some (.int g.x), some dv, o4] ∧ DsI A H J' t n tb hd gn en to (dl1 (dlT t (gs.take i)) g) (i + 1) (tolds t (gs.take i)), ?_, ?_⟩
        · obtain ⟨dxJ, eTJ⟩ := TJ.at_
          refine ⟨_, rfl, _, rfl, tb, dxJ, _, rfl, eTJ, rfl, _, rfl, tb, rw1, hd, gn, _, _, g.hd, rfl, TJ, rfl, _, rfl, ite2 (fun z => ?_) (fun z => ?_)⟩
          · have hne : ¬ g.x = lastL (dlT t (gs.take i)).hands g.hd := by
              intro y
              rw [y] at z
              simp at z
            have ed : dl1 (dlT t (gs.take i)) g = (dlT t (gs.take i)).next (.deal g.hd g.x g.ds) := if_neg hne
            refine ⟨_, rfl, _, rfl, _, rfl, sz 4 (by decide), fun q nq => ?_⟩
            have kq : Kp No J (upd J q (.tup [.str "deal", .int g.hd, .int g.x, dv])) := Kp.new nq
            have hq : upd J q (.tup [.str "deal", .int g.hd, .int g.x, dv]) q = some (.tup [.str "deal", .int g.hd, .int g.x, dv]) := upd_same
            have hev : EvAt (upd J q (.tup [.str "deal", .int g.hd, .int g.x, dv])) (.ref q) (.deal g.hd g.x g.ds) := ⟨q, dv, rfl, hq, (hds.kt kJ.t).kt kq.t⟩
            generalize upd J q (.tup [.str "deal", .int g.hd, .int g.x, dv]) = J1 at kq hev ⊢
            have T1 := TJ.no kq.t
            obtain ⟨dx1, e1⟩ := T1.at_
            refine ⟨_, rfl, tb, dx1, _, rfl, e1, rfl, _, rfl, tb, rw1, hd, gn, _, _, .ref q, .deal g.hd g.x g.ds, rfl, T1, hev, ⟨g0, g3, g4⟩, (fun _ z => by cases z), by omega, fun J2 rw2 hrw2 T2 k2 => ?_⟩
            have n_l : ∀ {c : Addr} {ys : List V}, J c = some (.lst ys) → ¬ (c = tb ∨ c = hd) := fun e y => by
              obtain ⟨_, q2⟩ := TJ.hands.dc
              rcases y with y | y
              · exact ne_of e eTJ (by intro z; cases z) y
              · exact ne_of e q2 (by intro z; cases z) y
            have kJ2 : Kp (fun b => b = tb ∨ b = hd) J J2 := (kq.sub fun _ z => False.elim z).trans k2 fun b z => .inl z
            have e2 := kJ2.t.lst eJ (n_l eJ)
            have to2 := kJ2.t.lst tJ (n_l tJ)
            obtain ⟨dx3, e3⟩ := T2.at_
            refine ⟨_, rfl, .inl ⟨rfl, _, SqL.of e2⟩, _, rfl, tb, A.c 44, dx3, _, _, rfl, e3, T.cl_Table, T.n_Table_number, l_num .., _, rfl, sz 2 (by decide), fun u2 nu2 => ⟨en, es, _, rfl, rfl, by rw [upd_ne (ne_of_none e2 nu2)]; exact e2, szL (by omega), ?_⟩⟩
            have ku : Kp No J2 (upd J2 u2 (.tup [.int ((dlT t (gs.take i)).next (.deal g.hd g.x g.ds)).num, .ref q])) := Kp.new nu2
            have hu3 : upd J2 u2 (.tup [.int ((dlT t (gs.take i)).next (.deal g.hd g.x g.ds)).num, .ref q]) u2 = some (.tup [.int ((dlT t (gs.take i)).next (.deal g.hd g.x g.ds)).num, .ref q]) := upd_same
            refine ⟨_, rfl, ?_⟩
            have e2u : upd J2 u2 (.tup [.int ((dlT t (gs.take i)).next (.deal g.hd g.x g.ds)).num, .ref q]) en = some (.lst es) := ku.t.lst e2 fun z => z
            show DsI A H (upd (upd J2 u2 (.tup [.int ((dlT t (gs.take i)).next (.deal g.hd g.x g.ds)).num, .ref q])) en (.lst (es ++ [.ref u2]))) t n tb hd gn en to _ _ _
            generalize upd J2 u2 (.tup [.int ((dlT t (gs.take i)).next (.deal g.hd g.x g.ds)).num, .ref q]) = J3 at ku hu3 e2u ⊢
            have ka : Kp (fun b => b = en) J3 (upd J3 en (.lst (es ++ [.ref u2]))) := Kp.updL e2u rfl
            have hev3 := (hev.kt k2.t).kt ku.t
            have T3 := T2.no ku.t
            have nen : ∀ b, b = en → ¬ tF tb rw2 hd gn b := fun b z y => by
              obtain ⟨dx9, e9⟩ := T3.at_
              obtain ⟨_, q1⟩ := T3.rows.dc
              obtain ⟨_, q2⟩ := T3.hands.dc
              obtain ⟨_, q3⟩ := T3.gone.dc
              rw [z] at y
              rcases y with y | y | y | y
              · exact ne_of e2u e9 (by intro z; cases z) y
              · exact ne_of e2u q1 (by intro z; cases z) y
              · exact ne_of e2u q2 (by intro z; cases z) y
              · exact ne_of e2u q3 (by intro z; cases z) y
            have kJ4 : Kp (fun b => b = tb ∨ b = hd ∨ b = en) J (upd J3 en (.lst (es ++ [.ref u2]))) := ((kJ2.sub (F' := fun b => b = tb ∨ b = hd ∨ b = en) fun b z => z.imp id .inl).trans ku fun _ z => False.elim z).trans ka fun b z => .inl (.inr (.inr z))
            have nrw2 : H rw2 = none := hrw2.elim (fun y => by rw [y]; exact nrw1) fun y => (kJ.trans kq fun _ z => False.elim z).free y fun z => False.elim z
            rw [ed]
            refine ⟨⟨rw2, es ++ [.ref u2], vs, nrw2, (T3.kt ka.t nen).le (by omega), upd_same, fun v hv => ?_, by rw [List.length_append, List.length_singleton]; omega, fun z => by simp at z, kJ4.t.lst tJ ?_, pJ.mono fun _ _ z => z.kt kJ4.t⟩, ?_, ?_⟩
            · rcases List.mem_append.mp hv with z | z
              · exact (hes v z).kt kJ4.t
              · rw [List.mem_singleton.mp z]
                exact ⟨u2, _, .ref q, .deal g.hd g.x g.ds, rfl, ka.t.tup hu3, (by have := I.num; show 0 ≤ (dlT t (gs.take i)).num + 1; omega), hev3.kt ka.t, ⟨g0, g3, g4⟩⟩
            · rintro (z | z | z)
              · exact n_l tJ (.inl z)
              · exact n_l tJ (.inr z)
              · exact nte z
            · refine kp_fresh ((kJ.sub (F' := fun b => b = tb ∨ b = hd ∨ b = en) fun _ z => False.elim z).trans kJ4 fun b z => .inl z) fun b z => ?_
              rcases z with z | z | z <;> rw [z] <;> assumption
            · have := I.num
              show 0 ≤ (dlT t (gs.take i)).num + 1
              omega
          · have heq : g.x = lastL (dlT t (gs.take i)).hands g.hd := by simpa using z
            have ed : dl1 (dlT t (gs.take i)) g = dlT t (gs.take i) := if_pos heq
            refine ⟨_, rfl, ?_⟩
            rw [ed]
            exact I.le (Nat.le_succ i)
        · rintro σ J' ⟨o4', rfl, I'⟩
          obtain ⟨rw2, es2, vs2, nrw2, T2, e2J, hes2, les2, hes02, t2J, p2J⟩ := I'.ex
          have lvs : vs2.length ≤ 4 := by rw [p2J.length, tolds_len, List.length_take]; omega
          obtain ⟨num, b, hh⟩ := dl1_hand (dlT t (gs.take i)) g x1
          obtain ⟨dx4, e4⟩ := T2.at_
          obtain ⟨kvs, hdk, hkl, hk, hv⟩ := T2.hands
          have q := hv g.hd
          rw [hh] at q
          obtain ⟨u4, q1, q2⟩ := q
          have dg : DGet J' hd (.int g.hd) (some (.ref u4)) := by
            have := DGet.k (k := Sum.inl g.hd) hdk
            rw [q1] at this
            exact this
          refine ⟨_, rfl, .inl ⟨rfl, _, SqL.of t2J⟩, _, rfl, tb, A.c 44, dx4, _, _, rfl, e4, T.cl_Table, T.n_Table_hands, l_hands .., _, rfl, hd, .ref u4, rfl, dg, 1, rfl, u4, _, rfl, SqT.of q2, (fun z => absurd z.1 (by show ¬ HT.sIx 3 0 (some 1) = 0; decide)), fun p np => ⟨to, vs2, _, rfl, rfl, by rw [upd_ne (ne_of_none t2J np)]; exact t2J, szL (by omega), ?_⟩⟩
          have kp : Kp No J' (upd J' p (.tup [.int num, .bl b])) := Kp.new np
          have hp : upd J' p (.tup [.int num, .bl b]) p = some (.tup [.int num, .bl b]) := upd_same
          have tp2 : upd J' p (.tup [.int num, .bl b]) to = some (.lst vs2) := kp.t.lst t2J fun z => z
          refine ⟨_, _, _, _, rfl, ?_⟩
          show DsI A H (upd (upd J' p (.tup [.int num, .bl b])) to (.lst (vs2 ++ [.ref p]))) t n tb hd gn en to _ _ _
          generalize upd J' p (.tup [.int num, .bl b]) = J3 at kp hp tp2 ⊢
          have ka : Kp (fun b => b = to) J3 (upd J3 to (.lst (vs2 ++ [.ref p]))) := Kp.updL tp2 rfl
          have T3 := T2.no kp.t
          have nto3 : ∀ b, b = to → ¬ tF tb rw2 hd gn b := fun b z y => by
            obtain ⟨dx9, e9⟩ := T3.at_
            obtain ⟨_, q1⟩ := T3.rows.dc
            obtain ⟨_, q2⟩ := T3.hands.dc
            obtain ⟨_, q3⟩ := T3.gone.dc
            rw [z] at y
            rcases y with y | y | y | y
            · exact ne_of tp2 e9 (by intro z; cases z) y
            · exact ne_of tp2 q1 (by intro z; cases z) y
            · exact ne_of tp2 q2 (by intro z; cases z) y
            · exact ne_of tp2 q3 (by intro z; cases z) y
          have kJ4 : Kp (fun b => b = to) J' (upd J3 to (.lst (vs2 ++ [.ref p]))) := (kp.sub fun _ z => False.elim z).trans ka fun b z => .inl z
          have et : dlT t (gs.take (i + 1)) = dl1 (dlT t (gs.take i)) g := by rw [take_snoc hg, dlT_snoc]
          have eo : tolds t (gs.take (i + 1)) = tolds t (gs.take i) ++ [(num, b)] := by
            rw [take_snoc hg, tolds_snoc]
            unfold toldOf
            rw [hh]
          rw [et, eo]
          refine ⟨⟨rw2, es2, vs2 ++ [.ref p], nrw2, T3.kt ka.t nto3, kJ4.t.lst e2J (fun z => nte z.symm), (fun v hv => (hes2 v hv).kt kJ4.t), les2, hes02, upd_same, paired_app (p2J.mono fun _ _ z => z.kt kJ4.t) (.cons ⟨p, rfl, ka.t.tup hp⟩ .nil)⟩, ?_, I'.num⟩
          exact kp_fresh ((I'.kp.sub (F' := fun b => b = to) fun _ z => False.elim z).trans kJ4 fun b z => .inl z) fun b z => by rw [z]; exact ntoH
      · rintro σ J ⟨o1, o2, o3, o4, rfl, I⟩
        rw [hgs.length, List.take_length] at I
        exact ⟨o1, o2, o3, o4, rfl, I⟩
    · rintro σ J ⟨o1, o2, o3, o4, rfl, I⟩
      obtain ⟨rw1, es, vs, nrw1, TJ, eJ, hes, les, hes0, tJ, pJ⟩ := I.ex
      have hnew : ∀ b, tF tb rw1 hd gn b → H b = none := fun b z => by
        rcases z with z | z | z | z <;> rw [z] <;> assumption
      have LJ := L.kt I.kp.t fun _ z => False.elim z
      have nlF : ∀ b, H b = none → ¬ lF l a b := fun b z y => by
        obtain ⟨o, eo⟩ := L.there y
        rw [z] at eo; cases eo
      refine ⟨fun σ G => σ = [some (.ref l), some (.ref gp), some (.ref tb), some (.ref en), some (.ref to), o1, o2, o3, o4] ∧ ∃ a' m' vs, LeadAt A K G l a' (dlT t gs) (n + 20) m' ∧ Enough m' e ∧ a'.d = a.d ∧ (∀ b, lF l a' b → lF l a b ∨ H b = none) ∧ Kg (tL tp) (lF l a) H G ∧ (a'.cs = a.cs ∧ a'.bg = a.bg ∧ a'.sh = a.sh) ∧ ¬ lF l a' to ∧ G to = some (.lst vs) ∧ Paired (TpAt G) vs (tolds t gs), ?_, ?_⟩
      · refine ⟨_, rfl, !es.isEmpty, .inl ⟨es, SqL.of eJ, rfl⟩, ?_⟩
        cases es with
        | nil =>
          refine iteF ⟨rfl, a, m, vs, ?_, ?_, rfl, fun b z => .inl z, (Kg.of I.kp).sub fun _ z => False.elim z, ⟨rfl, rfl, rfl⟩, nlF _ ntoH, tJ, pJ⟩
          · rw [hes0 rfl]
            exact ⟨LJ.at_, LJ.sto, LJ.rt, LJ.r0, LJ.tab.le (by omega), LJ.ent, LJ.shf, LJ.n1, LJ.n2, LJ.n3, LJ.ap⟩
          · rcases hen with z | z
            · exact hen0 z
            · exact z.le (by omega)
        | cons v0 es' =>
          have hne : gs ≠ [] := by
            intro z
            rw [z] at les
            exact absurd les (by simp)
          have hen' : Enough m (e + 16) := hen.resolve_left hne
          obtain ⟨dx5, hs5, e5⟩ := LJ.at_
          obtain ⟨dx6, e6⟩ := LJ.tab.at_
          refine iteT ⟨_, rfl, l, dx5, _, rfl, e5, rfl, _, rfl, _, rfl, l, A.c 55, dx5, _, _, rfl, e5, T.cl_Lead, T.n_Lead_table, l_table .., a.tb, dx6, _, rfl, e6, rfl, _, rfl, a.tb, a.rw, a.hd, a.gn, t, n, tb, rw1, hd, gn, _, _, rfl, LJ.tab, TJ, TG.kp I.kp, fun G4 lp ps nlp k4 hlp hps lps => ⟨_, rfl, ?_⟩⟩
          unfold tNil
          show spChange A K tp [.ref l, .ref tb, .ref lp, .ref en] G4 _ _
          have k14 : Kg (tL tp) No H G4 := (Kg.of I.kp).trans k4 fun _ z => False.elim z
          refine ⟨l, a, t, n, m, tb, rw1, hd, gn, _, _, lp, en, ps, v0 :: es', e, rfl, L.kt k14.t (fun _ z => False.elim z), TJ.no k4.t, TG.kg k14, hlp, hps, lps, k4.t.lst eJ (fun z => z), (fun v hv => (hes v hv).kt k4.t), Nat.le_trans les l4, hen', he, nlF _ (I.kp.free nlp fun z => False.elim z), nlF _ nenH, (fun b z => nlF b (hnew b z)), fun G a' m' LG q1 q2 q3 q4 kG qc qb qs => ?_⟩
          have to4 : G4 to = some (.lst vs) := k4.t.lst tJ fun z => z
          have LG' : LeadAt A K G l a' (dlT t gs) (n + 20) m' := ⟨LG.at_, LG.sto, LG.rt, LG.r0, LG.tab.le (by omega), LG.ent, LG.shf, LG.n1, LG.n2, LG.n3, LG.ap⟩
          refine ⟨rfl, a', m', vs, LG', q1, q2, fun b z => (q4 b z).imp id fun y => y.elim (hnew b) fun y => k14.free y fun z => False.elim z, (k14.sub fun _ z => False.elim z).trans kG fun b z => .inl z, ⟨qc, qb, qs⟩, fun z => ?_, kG.t.lst to4 (nlF _ ntoH), pJ.mono fun _ _ z => (z.kt k4.t).kt kG.t⟩
          rcases q4 to z with y | y | y
          · exact nlF _ ntoH y
          · obtain ⟨dx9, e9⟩ := TJ.at_
            obtain ⟨_, r1⟩ := TJ.rows.dc
            obtain ⟨_, r2⟩ := TJ.hands.dc
            obtain ⟨_, r3⟩ := TJ.gone.dc
            rcases y with y | y | y | y
            · exact ne_of tJ e9 (by intro z; cases z) y
            · exact ne_of tJ r1 (by intro z; cases z) y
            · exact ne_of tJ r2 (by intro z; cases z) y
            · exact ne_of tJ r3 (by intro z; cases z) y
          · rw [to4] at y; cases y
      · rintro σ G ⟨rfl, a', m', vs', q1, q2, q3, q4, q5, qc, q6, q7, q8⟩
        exact ⟨_, rfl, k G a' m' to vs' q1 q2 q3 q4 q5 qc ntoH q6 q7 q8⟩
end
end S02

set_option Elab.async false
set_option linter.all false
set_option maxRecDepth 100000
set_option maxHeartbeats 4000000
namespace S02
open PySem PySem.Spec PyProof.Rows L2 K5 SupX GenX
section
variable {P : Program} {w : World} {K : PySem.W.Frag} {mg : Str → Option Value} {base : Heap} {A : Ad} {tp : Nat → Addr} {nr pl B C fI : Addr}
/-! ### Lead() -/
theorem scLi : FnScope ["self", "disk", "houses"] ["self", "disk", "houses"] (defScope s_Lead___init__) := ⟨rfl, rfl, rfl, by decide +kernel, rfl, by decide +kernel, by decide +kernel⟩
def spLInit (A : Ad) (K : PySem.W.Frag) : Sp := fun vs H Q _ => ∃ (l dx d ls lu : Addr) (m : M) (e : Int), vs = [.ref l, .ref d, .int 0] ∧ H l = some (.ins (A.c 55) dx []) ∧ DiskAt (dAd A) H d ls lu m ∧ Good m ∧ m.run = true ∧ m.pend = [] ∧ m.sure = List.replicate 35 .non ∧ m.left = none ∧ 0 ≤ e ∧
  ∀ G a m', Enough m' e → LeadAt A K G l a TT.new 0 m' → a.d = d → (∀ b, lF l a b → b = l ∨ dF d ls lu b ∨ H b = none) → Kp (fun b => b = l ∨ dF d ls lu b) H G → a.cs = [] → a.bg = 0 → Q .non G
theorem ok_linit (T : Txt K mg A) (N : NewRoot K mg nr pl) : ∃ fd, FnOk P w K mg base CX0 6 (A.m 55 0) fd ["self", "disk", "houses"] (spLInit A K) ∧ Binds K fd ["self", "disk", "houses"] [] := by
  obtain ⟨fd, F⟩ := T.m_Lead___init__.fn
  obtain ⟨fdW, Gwithin, bwithin⟩ := ok_within (P := P) (w := w) (base := base) T
  obtain ⟨fd1, G_Store___init__, b_Store___init__⟩ := ok_sinit (P := P) (w := w) (base := base) T N
  obtain ⟨fd2, G_Store_stored_table, b_Store_stored_table⟩ := ok_stored (P := P) (w := w) (base := base) T
  obtain ⟨fd3, G_Store_last_entries, b_Store_last_entries⟩ := ok_last_entries (P := P) (w := w) (base := base) T
  obtain ⟨fd4, G_Shelf___init__, b_Shelf___init__⟩ := ok_hinit (P := P) (w := w) (base := base) T
  obtain ⟨fd5, G_Store_claim, b_Store_claim⟩ := ok_claim (P := P) (w := w) (base := base) T
  refine ⟨fd, F.ok scLi (fun vs H Q E h => ?_) (fun cdv Ar outer s H vs Q E hr h => ?_), F.binds fun _ _ _ _ _ _ us hl => match us, hl with | [_, _, _], _ => rfl⟩
  · obtain ⟨l, dx, d, ls, lu, m, e0, rfl, _⟩ := h
    rfl
  · obtain ⟨l, dx, d, ls, lu, m, e0, rfl, el, D, Gm, hrun, hp, hs, hlf, he0, k⟩ := h
    refine ⟨_, (pss_cons (ps_fld (pv 0) (pe_make (E := E0) T.mk_Store G_Store___init__ (hr.mono (by first | decide | omega)) rfl T.c_Store b_Store___init__ .nil pass0 (pa_cons (pv 1) pa_nil)) rfl)
      (pss_cons (ps_if (pt_not (pt_val (pe_call Gwithin (hr.mono (by first | decide | omega)) rfl T.within.at_ T.within.kp bwithin .nil pass0 (pa_cons (pv 2) (pa_cons pe_int (pa_cons (pe_glob (v := .int 3) rfl T.k_MOST_HOUSES.choose_spec ⟨_, rfl⟩) pa_nil))))))
        (pss_one ps_never)
        pss_nil)
      (pss_cons (ps_fld (pv 0) (pv 2) rfl)
      (pss_cons (ps_fld (pv 0) (pe_meth0 (pe_fld (pv 0) rfl) T.cl_Store T.m_Store_stored_table.me G_Store_stored_table (hr.mono (by first | decide | omega)) b_Store_stored_table .nil pass0) rfl)
      (pss_cons (ps_fld (pv 0) (pe_meth0 (pe_fld (pv 0) rfl) T.cl_Store T.m_Store_last_entries.me G_Store_last_entries (hr.mono (by first | decide | omega)) b_Store_last_entries .nil pass0) rfl)
      (pss_cons (ps_fld (pv 0) (pe_make0 (E := E0) T.mk_Shelf G_Shelf___init__ (hr.mono (by first | decide | omega)) rfl T.c_Shelf b_Shelf___init__ .nil pass0) rfl)
      (pss_cons (ps_fld (pv 0) pe_dnewK rfl)
      (pss_one (ps_expr (pe_meth0 (pe_fld (pv 0) rfl) T.cl_Store T.m_Store_claim.me G_Store_claim (hr.mono (by first | decide | omega)) b_Store_claim .nil pass0)))))))))), ?_⟩
    have lt : ∀ n : Nat, n ≤ 6 → n < 1000 := fun n h => by omega
    -- self.store = Store(disk)
    refine ⟨_, rfl, fun st dx' nst ndx nex => ?_⟩
    have nst0 : upd H dx' (.own st) st = none := (upd_ne nex.symm).trans nst
    have kA : Kp No H (upd (upd H dx' (.own st)) st (.ins (A.c 52) dx' [])) := (Kp.new ndx).andN nst0
    have eA : upd (upd H dx' (.own st)) st (.ins (A.c 52) dx' []) st = some (.ins (A.c 52) dx' []) := upd_same
    unfold tNil
    show spSInit A nr [.ref st, .ref d] (upd (upd H dx' (.own st)) st (.ins (A.c 52) dx' [])) _ _
    generalize upd (upd H dx' (.own st)) st (.ins (A.c 52) dx' []) = HA at kA eA ⊢
    have nld : ¬ dF d ls lu l := by
      obtain ⟨ddx, tpx, sx, ed, _⟩ := D.ex
      obtain ⟨rs, h3, _⟩ := D.uns
      rintro (z | z | z)
      · exact fld_ne el ed (by unfold dfl; intro z; cases z) z
      · exact ne_of el D.sure (by intro z; cases z) z
      · exact ne_of el h3 (by intro z; cases z) z
    refine ⟨st, dx', d, ls, lu, m, rfl, eA, D.kt kA.t (fun _ z => False.elim z), Gm, hrun, hp, by rw [hs]; rfl, fun G0 k0 S0 => ?_⟩
    have nls : l ≠ st := fun z => by rw [z, nst] at el; cases el
    have el0 := k0.t.ins (kA.t.ins el fun z => z) nls
    have kH0 : Kp No H G0 := kp_fresh ((kA.sub (F' := fun b => b = st) fun _ z => False.elim z).trans k0 fun b z => .inl z) fun b z => by rw [z]; exact nst
    refine ⟨rfl, _, rfl, l, A.c 55, dx, _, rfl, el0, T.cl_Lead, T.n_Lead_store, lt 0 (by decide), ?_⟩
    rw [show putF "store" (V.ref st) [] = ([("store", V.ref st)] : List (Str × V)) from rfl]
    have k1 : Kp (fun b => b = l) G0 (upd G0 l (.ins (A.c 55) dx [("store", .ref st)])) := Kp.updI el0 rfl
    have e1 : upd G0 l (.ins (A.c 55) dx [("store", .ref st)]) l = some (.ins (A.c 55) dx [("store", .ref st)]) := upd_same
    generalize upd G0 l (.ins (A.c 55) dx [("store", .ref st)]) = G1 at k1 e1 ⊢
    have nlS : ∀ b, b = l → ¬ sF st d ls lu b := fun b z y => by
      rw [z] at y
      exact y.elim nls nld
    have S1 := S0.kt k1.t nlS
    have kH1 : Kp (fun b => b = l) H G1 := (kH0.sub fun _ z => False.elim z).trans k1 fun b z => .inl z
    -- if not within(houses, 0, MOST_HOUSES)
    refine ⟨_, rfl, _, _, _, rfl, .inl ⟨0, rfl, _, rfl, ?_⟩⟩
    rw [show inB 0 3 0 = true from rfl]
    refine iteF ⟨_, rfl, _, rfl, l, A.c 55, dx, _, rfl, e1, T.cl_Lead, T.n_Lead_houses, lt 1 (by decide), ?_⟩
    rw [show putF "houses" (V.int 0) [("store", V.ref st)] = ([("store", V.ref st), ("houses", V.int 0)] : List (Str × V)) from rfl]
    have k2 : Kp (fun b => b = l) G1 (upd G1 l (.ins (A.c 55) dx [("store", .ref st), ("houses", .int 0)])) := Kp.updI e1 rfl
    have e2 : upd G1 l (.ins (A.c 55) dx [("store", .ref st), ("houses", .int 0)]) l = some (.ins (A.c 55) dx [("store", .ref st), ("houses", .int 0)]) := upd_same
    generalize upd G1 l (.ins (A.c 55) dx [("store", .ref st), ("houses", .int 0)]) = G2 at k2 e2 ⊢
    have S2 := S1.kt k2.t nlS
    have kH2 := kH1.trans k2 fun b z => .inl z
    obtain ⟨dxs, es2⟩ := S2.at_
    -- self.table = self.store.stored_table()
    refine ⟨_, rfl, l, A.c 55, dx, _, _, rfl, e2, T.cl_Lead, T.n_Lead_store, rfl, st, dxs, _, rfl, es2, rfl, st, d, ls, lu, nr, m, rfl, S2, N.rt _, hs, fun G3 tb rw hd gn ntb nrw nhd ngn TB k3 => ?_⟩
    have e3 := k3.t.ins e2 fun z => z
    have S3 := S2.kt k3.t fun _ z => False.elim z
    refine ⟨_, rfl, l, A.c 55, dx, _, rfl, e3, T.cl_Lead, T.n_Lead_table, lt 2 (by decide), ?_⟩
    rw [show putF "table" (V.ref tb) [("store", V.ref st), ("houses", V.int 0)] = ([("store", V.ref st), ("houses", V.int 0), ("table", V.ref tb)] : List (Str × V)) from rfl]
    have k4 : Kp (fun b => b = l) G3 (upd G3 l (.ins (A.c 55) dx [("store", .ref st), ("houses", .int 0), ("table", .ref tb)])) := Kp.updI e3 rfl
    have e4 : upd G3 l (.ins (A.c 55) dx [("store", .ref st), ("houses", .int 0), ("table", .ref tb)]) l = some (.ins (A.c 55) dx [("store", .ref st), ("houses", .int 0), ("table", .ref tb)]) := upd_same
    generalize upd G3 l (.ins (A.c 55) dx [("store", .ref st), ("houses", .int 0), ("table", .ref tb)]) = G4 at k4 e4 ⊢
    have nlT : ∀ b, b = l → ¬ tF tb rw hd gn b := fun b z y => by
      rw [z] at y
      exact tab_ins e3 (by unfold tfl; intro _ _ _ _ z; cases z) TB y
    have TB4 := TB.kt k4.t nlT
    have S4 := S3.kt k4.t nlS
    have kH3 : Kp (fun b => b = l) H G3 := kH2.trans k3 fun _ z => False.elim z
    have kH4 : Kp (fun b => b = l) H G4 := kH3.trans k4 fun b z => .inl z
    obtain ⟨dxs4, es4⟩ := S4.at_
    -- self.entries = self.store.last_entries()
    refine ⟨_, rfl, l, A.c 55, dx, _, _, rfl, e4, T.cl_Lead, T.n_Lead_store, rfl, st, dxs4, _, rfl, es4, rfl, st, d, ls, lu, nr, m, rfl, S4, N.rt _, fun G5 en nen k5 een => ?_⟩
    have e5 := k5.t.ins e4 fun z => z
    refine ⟨_, rfl, l, A.c 55, dx, _, rfl, e5, T.cl_Lead, T.n_Lead_entries, lt 3 (by decide), ?_⟩
    rw [show putF "entries" (V.ref en) [("store", V.ref st), ("houses", V.int 0), ("table", V.ref tb)] = ([("store", V.ref st), ("houses", V.int 0), ("table", V.ref tb), ("entries", V.ref en)] : List (Str × V)) from rfl]
    have k6 : Kp (fun b => b = l) G5 (upd G5 l (.ins (A.c 55) dx [("store", .ref st), ("houses", .int 0), ("table", .ref tb), ("entries", .ref en)])) := Kp.updI e5 rfl
    have e6 : upd G5 l (.ins (A.c 55) dx [("store", .ref st), ("houses", .int 0), ("table", .ref tb), ("entries", .ref en)]) l = some (.ins (A.c 55) dx [("store", .ref st), ("houses", .int 0), ("table", .ref tb), ("entries", .ref en)]) := upd_same
    generalize upd G5 l (.ins (A.c 55) dx [("store", .ref st), ("houses", .int 0), ("table", .ref tb), ("entries", .ref en)]) = G6 at k6 e6 ⊢
    have nel : en ≠ l := ne_of een e5 (by intro z; cases z)
    have een6 := k6.t.lst een nel
    have TB6 := (TB4.no k5.t).kt k6.t nlT
    have S6 := (S4.kt k5.t fun _ z => False.elim z).kt k6.t nlS
    have kH5 : Kp (fun b => b = l) H G5 := kH4.trans k5 fun _ z => False.elim z
    have kH6 : Kp (fun b => b = l) H G6 := kH5.trans k6 fun b z => .inl z
    -- self.shelf = Shelf()
    refine fun sh dxh nsh ndh nxh => ⟨sh, dxh, TT.new, rfl, upd_same, fun G7 cp ncp SH k7 => ?_⟩
    have nsh0 : upd G6 dxh (.own sh) sh = none := (upd_ne nxh.symm).trans nsh
    have k67 : Kp (fun b => b = sh) G6 G7 := ((Kp.new (F := fun b => b = sh) ndh).andN nsh0).trans k7 fun b z => .inl z
    have nshl : l ≠ sh := fun z => by rw [← z, e6] at nsh; cases nsh
    have nshH : H sh = none := kH6.free nsh fun z => absurd z.symm nshl
    have e7 := k67.t.ins e6 nshl
    have nfS : ∀ b, b = sh → ¬ sF st d ls lu b := fun b z y => by
      obtain ⟨dxs6, es6⟩ := S6.at_
      obtain ⟨ddx, tpx, sx, ed, _⟩ := S6.dk.ex
      obtain ⟨rs, h3, _⟩ := S6.dk.uns
      rw [z] at y
      rcases y with y | y | y | y
      · rw [y, es6] at nsh; cases nsh
      · rw [y, ed] at nsh; cases nsh
      · rw [y, S6.dk.sure] at nsh; cases nsh
      · rw [y, h3] at nsh; cases nsh
    have nfT : ∀ b, b = sh → ¬ tF tb rw hd gn b := fun b z y => by
      rw [z] at y
      obtain ⟨o, eo⟩ := TB6.there y
      rw [nsh] at eo; cases eo
    have nfe : ¬ en = sh := fun z => by rw [← z, een6] at nsh; cases nsh
    have S7 := S6.kt k67.t nfS
    have TB7 := TB6.kt k67.t nfT
    have een7 := k67.t.lst een6 nfe
    have ncl : cp ≠ l := fun z => by
      have := (upd_none ncp).2
      have := (upd_none this).2
      rw [z, e6] at this; cases this
    have ncpG : G6 cp = none := (upd_none (upd_none ncp).2).2
    refine ⟨rfl, _, rfl, l, A.c 55, dx, _, rfl, e7, T.cl_Lead, T.n_Lead_shelf, lt 4 (by decide), ?_⟩
    rw [show putF "shelf" (V.ref sh) [("store", V.ref st), ("houses", V.int 0), ("table", V.ref tb), ("entries", V.ref en)] = ([("store", V.ref st), ("houses", V.int 0), ("table", V.ref tb), ("entries", V.ref en), ("shelf", V.ref sh)] : List (Str × V)) from rfl]
    have k8 : Kp (fun b => b = l) G7 (upd G7 l (.ins (A.c 55) dx [("store", .ref st), ("houses", .int 0), ("table", .ref tb), ("entries", .ref en), ("shelf", .ref sh)])) := Kp.updI e7 rfl
    have e8 : upd G7 l (.ins (A.c 55) dx [("store", .ref st), ("houses", .int 0), ("table", .ref tb), ("entries", .ref en), ("shelf", .ref sh)]) l = some (.ins (A.c 55) dx [("store", .ref st), ("houses", .int 0), ("table", .ref tb), ("entries", .ref en), ("shelf", .ref sh)]) := upd_same
    generalize upd G7 l (.ins (A.c 55) dx [("store", .ref st), ("houses", .int 0), ("table", .ref tb), ("entries", .ref en), ("shelf", .ref sh)]) = G8 at k8 e8 ⊢
    -- self.followers = {}
    refine fun fo nfo => ⟨_, rfl, l, A.c 55, dx, _, rfl, (upd_ne (ne_of_none e8 nfo)).trans e8, T.cl_Lead, T.n_Lead_followers, lt 5 (by decide), ?_⟩
    rw [show putF "followers" (V.ref fo) [("store", V.ref st), ("houses", V.int 0), ("table", V.ref tb), ("entries", V.ref en), ("shelf", V.ref sh)] = lfl st 0 tb en sh fo from rfl]
    have k9 : Kp (fun b => b = l) G8 (upd (upd G8 fo (.dK [])) l (.ins (A.c 55) dx (lfl st 0 tb en sh fo))) := (Kp.new nfo).andI ((upd_ne (ne_of_none e8 nfo)).trans e8) rfl
    have e9 : upd (upd G8 fo (.dK [])) l (.ins (A.c 55) dx (lfl st 0 tb en sh fo)) l = some (.ins (A.c 55) dx (lfl st 0 tb en sh fo)) := upd_same
    generalize upd (upd G8 fo (.dK [])) l (.ins (A.c 55) dx (lfl st 0 tb en sh fo)) = G9 at k9 e9 ⊢
    have k79 : Kp (fun b => b = l) G7 G9 := k8.trans k9 fun b z => .inl z
    have S9 := S7.kt k79.t nlS
    have TB9 := TB7.kt k79.t nlT
    have een9 := k79.t.lst een7 nel
    have no0 : ∀ b, ¬ csF ([] : List Cp) b := fun b ⟨x, hx, _⟩ => by cases hx
    have SH9 : ShAt A G9 sh cp 0 [] TT.new := SH.kt k79.t nshl.symm ncl fun b _ y => no0 b y
    have k69 : Kp (fun b => b = l ∨ b = sh) G6 G9 := (k67.sub (F' := fun b => b = l ∨ b = sh) fun b z => .inr z).trans k79 fun b z => .inl (.inl z)
    have kH9 : Kp (fun b => b = l) H G9 := by
      have : Kp (fun b => b = l ∨ b = sh) H G9 := (kH6.sub (F' := fun b => b = l ∨ b = sh) fun b z => .inl z).trans k69 fun b z => .inl z
      intro b o e n
      by_cases y : b = sh
      · rw [y, nshH] at e; cases e
      · exact this b o e fun mu z => z.elim (n mu) y
    obtain ⟨dxs9, es9⟩ := S9.at_
    -- self.store.claim()
    refine ⟨_, rfl, l, A.c 55, dx, _, _, rfl, e9, T.cl_Lead, T.n_Lead_store, l_store .., st, dxs9, _, rfl, es9, rfl, ?_⟩
    show spClaim A K [.ref st] G9 _ _
    refine ⟨st, d, ls, lu, nr, m, 0, e0, rfl, S9, N.rt _, ⟨hrun, fun x e => by rw [hlf] at e; cases e⟩, he0, fun r' G lu' m' hlu kG SG q1 q2 q3 RG => ?_⟩
    have nlS9 : ∀ b, sF st d ls lu b → ¬ tF tb rw hd gn b := tab_sto S9 TB9
    have nle9 : ¬ sF st d ls lu en := by
      obtain ⟨ddx, tpx, sx, ed, _⟩ := S9.dk.ex
      rintro (y | y | y | y)
      · exact ne_of een9 es9 (by intro z; cases z) y
      · exact ne_of een9 ed (by intro z; cases z) y
      · have nenS := S4.dk.sure
        rw [y] at nen
        rw [nen] at nenS; cases nenS
      · obtain ⟨rs, h3, _⟩ := S4.dk.uns
        rw [y] at nen
        rw [nen] at h3; cases h3
    have kF9 : Kp (fun b => b = l ∨ dF d ls lu b) H G := by
      have nstH : H st = none := nst
      have := (kH9.sub (F' := fun b => b = l ∨ sF st d ls lu b) fun b z => .inl z).trans (kG.sub (F' := fun b => b = l ∨ sF st d ls lu b) fun b z => .inr z) fun b z => .inl z
      intro b o e n
      refine this b o e fun mu z => ?_
      rcases z with z | z | z
      · exact n mu (.inl z)
      · rw [z, nst] at e; cases e
      · exact n mu (.inr z)
    have nsF : ∀ {b : Addr}, G9 b = none → b = l ∨ dF d ls lu b ∨ H b = none := fun {b} z => by
      by_cases y : b = l
      · exact .inl y
      · exact .inr (.inr (kH9.free z fun y' => absurd y' y))
    have elG := kG.t.ins e9 (nlS l rfl)
    have shS : ¬ sF st d ls lu sh := nfS sh rfl
    have cpS : ¬ sF st d ls lu cp := sto_dK SH9.dic S9
    have hcpH : H cp = none := kH6.free ncpG fun z => absurd z ncl
    have enH : H en = none := kH4.free nen fun z => absurd z nel
    refine k G ⟨st, d, ls, lu', r', tb, rw, hd, gn, en, sh, cp, fo, 0, []⟩ m' q3 ⟨⟨dx, 0, elG⟩, SG, ⟨0, RG⟩, q1, TB9.kt kG.t nlS9, ⟨[], kG.t.lst een9 nle9, Nat.zero_le _⟩, SH9.kt kG.t shS cpS (fun b _ y => no0 b y), ?_, ?_, ?_, fun b z => absurd z (no0 b)⟩ rfl ?_ kF9 rfl rfl
    · intro z
      exact nle9 (.inr (.inr (.inl z)))
    · intro z
      rcases hlu with y | y
      · exact nle9 (.inr (.inr (.inr (z.trans y))))
      · rw [← show en = lu' from z, een9] at y; cases y
    · intro z
      obtain ⟨o, eo⟩ := TB6.there z
      rw [ncpG] at eo; cases eo
    · have hT : ∀ b, tF tb rw hd gn b → H b = none := fun b z => by
        have nn : ∀ {c : Addr}, G2 c = none → ¬ c = l → H c = none := fun h n => kH2.free h fun z => absurd z n
        have nl2 : ∀ {c : Addr}, G2 c = none → ¬ c = l := fun h z => by rw [z, e2] at h; cases h
        rcases z with z | z | z | z <;> rw [z]
        · exact nn ntb (nl2 ntb)
        · exact nn nrw (nl2 nrw)
        · exact nn nhd (nl2 nhd)
        · exact nn ngn (nl2 ngn)
      rintro b (z | (z | z | z | z) | z | z | z | z | z)
      · exact .inl z
      · rw [show b = st from z]; exact .inr (.inr nst)
      · exact .inr (.inl (.inl z))
      · exact .inr (.inl (.inr (.inl z)))
      · rw [show b = lu' from z]
        exact hlu.elim (fun y => .inr (.inl (.inr (.inr y)))) nsF
      · exact .inr (.inr (hT b z))
      · rw [show b = en from z]; exact .inr (.inr enH)
      · rw [show b = sh from z]; exact .inr (.inr nshH)
      · rw [show b = cp from z]; exact .inr (.inr hcpH)
      · exact absurd z (no0 b)
end
end S02

set_option Elab.async false
set_option linter.all false
set_option maxRecDepth 100000
set_option maxHeartbeats 1000000
namespace S02
open PySem PySem.Spec PyProof.Rows L2 K5 SupX
theorem lay_ints : ∀ ns : List Int, PyData.canLayAll0 (ns.map PyData.int) = true ∧ PyData.depthAll (ns.map PyData.int) = 0
  | [] => ⟨by simp only [List.map_nil, PyData.canLayAll0], by simp only [List.map_nil, PyData.depthAll]⟩
  | n :: ns => by
    obtain ⟨h1, h2⟩ := lay_ints ns
    exact ⟨by simp only [List.map_cons, PyData.canLayAll0, PyData.canLay0, h1, Bool.and_self], by simp only [List.map_cons, PyData.depthAll, PyData.depth, h2]; rfl⟩
theorem dp_ints {K : PySem.W.Frag} {H : Hp} : ∀ ns : List Int, DpAll K H (ns.map V.int) (ns.map PyData.int)
  | [] => .nil
  | n :: ns => .cons (.int n) (dp_ints ns)
theorem shaped_ints (ns : List Int) : SeqAt.shaped (.list (ns.map PyData.int)) = true := by
  obtain ⟨h1, h2⟩ := lay_ints ns
  exact shaped_of (by simp only [PyData.canLay0]; exact h1) (by simp only [PyData.depth, h2]; omega)
theorem shaped_nil : SeqAt.shaped (.list []) = true := shaped_ints []
theorem eqv_nil (ds : List PyData) : PyData.eqv (.list ds) (.list []) = ds.isEmpty := by
  cases ds with
  | nil => simp only [PyData.eqv, PyData.eqvAll, List.isEmpty_nil]
  | cons d ds => simp only [PyData.eqv, PyData.eqvAll, List.isEmpty_cons]
/-- the numbers that the law draws from: the rest of the script at bi, a number -/
structure BoxAt (H : Hp) (bx bi : Addr) : Prop where
  ex : ∃ (ns : List Int) (st : Int), H bx = some (.lst [.ref bi, .int st]) ∧ H bi = some (.lst (ns.map V.int)) ∧ ns.length ≤ 63
  ne : bx ≠ bi
def bF (bx bi : Addr) : Addr → Prop := fun b => b = bx ∨ b = bi
theorem BoxAt.kt {F : Addr → Prop} {H G : Hp} {bx bi : Addr} (k : Kt F H G) (b : BoxAt H bx bi) (n : ∀ a, F a → ¬ bF bx bi a) : BoxAt G bx bi := by
  obtain ⟨ns, st, h1, h2, h3⟩ := b.ex
  exact ⟨⟨ns, st, k.lst h1 fun z => n _ z (.inl rfl), k.lst h2 fun z => n _ z (.inr rfl), h3⟩, b.ne⟩
section
variable {P : Program} {w : World} {K : PySem.W.Frag} {mg : Str → Option Value} {base : Heap} {A : Ad}
theorem sctake : FnScope ["_law_box", "_law_many", "_law_number"] ["_law_box", "_law_many"] (defScope s_take) := ⟨rfl, rfl, rfl, by decide +kernel, rfl, by decide +kernel, by decide +kernel⟩
def spTake : Sp := fun vs H Q _ => ∃ bx bi n, vs = [.ref bx, .int n] ∧ BoxAt H bx bi ∧ 0 < n ∧ n.natAbs < 2 ^ 90 ∧ ∀ r G, 0 ≤ r → r < n → BoxAt G bx bi → Kp (bF bx bi) H G → Q (.int r) G
theorem ok_take (T : Txt K mg A) : ∃ fd, FnOk P w K mg base CX0 1 (A.d 64) fd ["_law_box", "_law_many"] spTake ∧ Binds K fd ["_law_box", "_law_many"] [] := by
  obtain ⟨fd, F⟩ := T.take.fn
  refine ⟨fd, F.ok sctake (fun vs H Q E h => ?_) (fun cdv Ar outer s H vs Q E hr h => ?_), F.binds fun _ _ _ _ _ _ us hl => match us, hl with | [_, _], _ => rfl⟩
  · obtain ⟨bx, bi, n, rfl, _⟩ := h
    rfl
  · obtain ⟨bx, bi, n, rfl, B, hn, hw, k⟩ := h
    obtain ⟨ns, st, h1, h2, h3⟩ := B.ex
    refine ⟨_, (pss_cons (ps_if (pt_cmpR (op_eqD hr.units) (pe_ix ix_list (pv 0) pe_int (fun _ _ => rfl)) (pe_lst pa_nil) (nomark _))
        (pss_cons (ps_asg (pe_op op_mod (pe_op op_mul (pe_ix ix_list (pv 0) pe_int (fun _ _ => rfl)) pe_int) pe_int) (pg_sub (pv 0) pe_int set_list))
        (pss_one (ps_ret (pe_op op_mod (pe_op op_fdiv (pe_ix ix_list (pv 0) pe_int (fun _ _ => rfl)) pe_int) (pv 1)))))
        pss_nil)
      (pss_cons (ps_set (i := 2) sctake.nd rfl (Or.inl rfl) (pe_ix ix_list (pe_ix ix_list (pv 0) pe_int (fun _ _ => rfl)) pe_int (fun _ _ => rfl)))
      (pss_cons (ps_asg (pe_op op_fdivW (pv 2) (pv 1)) (pg_sub (pe_ix ix_list (pv 0) pe_int (fun _ _ => rfl)) pe_int set_list))
      (pss_cons (ps_if (PW.pt (pw_or (pt_cmpR op_eq (pe_ix ix_list (pe_ix ix_list (pv 0) pe_int (fun _ _ => rfl)) pe_int (fun _ _ => rfl)) pe_int (nomark _)) (pw_or1 (pt_cmpR op_eq (pe_ix ix_list (pe_ix ix_list (pv 0) pe_int (fun _ _ => rfl)) pe_int (fun _ _ => rfl)) (pe_un un_neg pe_int) (nomark _)))))
        (pss_one (ps_expr (pe_bm PySem.F.plainAttrs_list PySem.F.slot_list_pop PySem.F.type_list_pop mt_popAt (pe_ix ix_list (pv 0) pe_int (fun _ _ => rfl)) (pa_cons pe_int pa_nil))))
        pss_nil)
      (pss_one (ps_ret (pe_op op_mod (pv 2) (pv 1)))))))), ?_⟩
    -- if _law_box[0] == []
    refine ⟨_, rfl, bx, _, 0, .ref bi, rfl, rfl, SqL.of h1, rfl, Nat.zero_le _, fun e ne => ?_⟩
    have g1 : upd H e (.lst []) bx = some (.lst [.ref bi, .int st]) := by rw [upd_ne (ne_of_none h1 ne)]; exact h1
    have g2 : upd H e (.lst []) bi = some (.lst (ns.map V.int)) := by rw [upd_ne (ne_of_none h2 ne)]; exact h2
    have k0 : Kp (bF bx bi) H (upd H e (.lst [])) := Kp.new ne
    refine ⟨_, _, .lst (SqL.of g2) (dp_ints ns), .lst (SqL.of upd_same) .nil, shaped_ints ns, shaped_nil, _, rfl, ?_⟩
    rw [eqv_nil]
    cases ns with
    | nil =>
      refine iteT ?_
      refine ⟨_, rfl, bx, _, 1, .int st, rfl, rfl, SqL.of g1, rfl, _, _, rfl, rfl, .inr (by decide), _, _, rfl, rfl, by show (0 : Int) < 2147483647; decide, _, rfl, bx, _, 1, 1, rfl, rfl, g1, rfl, ?_⟩
      refine ⟨_, rfl, bx, _, 1, _, rfl, rfl, SqL.of upd_same, rfl, _, _, rfl, rfl, ⟨by decide, by decide⟩, _, rfl, _, _, rfl, rfl, hn, ?_⟩
      refine k _ _ (Int.emod_nonneg _ (by omega)) (Int.emod_lt_of_pos _ hn) ⟨⟨[], _, upd_same, by rw [upd_ne B.ne.symm]; exact g2, Nat.zero_le _⟩, B.ne⟩ (k0.andL g1 (.inl rfl))
    | cons n0 ns =>
      refine iteF ?_
      have hf : ∀ a : Int, 0 ≤ a % n ∧ a % n < n := fun a => ⟨Int.emod_nonneg _ (by omega), Int.emod_lt_of_pos _ hn⟩
      refine ⟨_, rfl, bx, _, 0, .ref bi, rfl, rfl, SqL.of g1, rfl, bi, _, 0, .int n0, rfl, rfl, SqL.of g2, atI_nat (j := 0) rfl, ?_⟩
      refine ⟨_, rfl, _, rfl, _, _, rfl, rfl, wide_div hn hw (by decide) (by decide), _, rfl, bx, _, 0, .ref bi, rfl, rfl, SqL.of g1, rfl, bi, _, 0, 0, rfl, rfl, g2, ixN_in (by decide) (by simp only [List.length_map, List.length_cons]; omega), ?_⟩
      have k1 := k0.andL (o' := .lst (V.int (n0 / n) :: ns.map V.int)) g2 (.inr rfl)
      have j1 : upd (upd H e (.lst [])) bi (.lst (V.int (n0 / n) :: ns.map V.int)) bx = some (.lst [.ref bi, .int st]) := by rw [upd_ne B.ne]; exact g1
      have fin1 : BoxAt (upd (upd H e (.lst [])) bi (.lst (V.int (n0 / n) :: ns.map V.int))) bx bi := ⟨⟨n0 / n :: ns, st, j1, upd_same, h3⟩, B.ne⟩
      have last : ∀ (σ : L2.St) (J : Hp), σ = [some (.ref bx), some (.int n), some (.int n0)] → BoxAt J bx bi → Kp (bF bx bi) H J → tRet (tOp (rI (fun _ j => 0 < j) fun i j => .int (i % j)) (tVar 2) (tVar 1)) { nx := fun _ G => Q .non G, rt := Q } σ J := fun σ J e b kj => by
        subst e
        exact ⟨_, rfl, _, rfl, _, _, rfl, rfl, hn, k _ _ (hf n0).1 (hf n0).2 b kj⟩
      have pop : tDrop (tBM K "list" rPopAt (tOp (rIxL K) (tVar 0) (tC (.int 0))) (tCons (tC (.int 0)) tNil)) { nx := tRet (tOp (rI (fun _ j => 0 < j) fun i j => .int (i % j)) (tVar 2) (tVar 1)) { nx := fun _ G => Q .non G, rt := Q }, rt := Q } [some (.ref bx), some (.int n), some (.int n0)] (upd (upd H e (.lst [])) bi (.lst (V.int (n0 / n) :: ns.map V.int))) := by
        refine ⟨_, rfl, bx, _, 0, .ref bi, rfl, rfl, SqL.of j1, rfl, .inl ⟨rfl, _, SqL.of upd_same⟩, bi, _, 0, 0, V.int (n0 / n), rfl, rfl, upd_same, by decide, by decide, ?_, rfl, ?_⟩
        · exact (ixN_seq (ixN_in (by decide) (by simp only [List.length_map, List.length_cons]; omega))).1
        · refine last _ _ rfl ⟨⟨ns, st, by rw [upd_ne B.ne]; exact j1, upd_same, by rw [List.length_cons] at h3; omega⟩, B.ne⟩ (k1.andL upd_same (.inr rfl))
      refine ⟨_, rfl, bx, _, 0, .ref bi, rfl, rfl, SqL.of j1, rfl, bi, _, 0, .int (n0 / n), rfl, rfl, SqL.of upd_same, atI_nat (j := 0) rfl, rfl, _, rfl, ?_⟩
      refine ite2 (fun _ => iteT pop) (fun _ => ?_)
      refine ⟨_, rfl, bx, _, 0, .ref bi, rfl, rfl, SqL.of j1, rfl, bi, _, 0, .int (n0 / n), rfl, rfl, SqL.of upd_same, atI_nat (j := 0) rfl, 1, rfl, rfl, _, rfl, ?_⟩
      exact ite2 (fun _ => pop) (fun _ => last _ _ rfl fin1 k1)
/-! ### begun -/
theorem scbegun : FnScope ["_law_script", "_law_stirred", "_law_cell"] ["_law_script"] (defScope s_begun) := ⟨rfl, rfl, rfl, by decide +kernel, rfl, by decide +kernel, by decide +kernel⟩
def spBegun (K : PySem.W.Frag) : Sp := fun vs H Q _ => ∃ (a : Addr) (ns : List Int), vs = [.ref a] ∧ SqL K H a (ns.map V.int) ∧ ns.length ≤ 63 ∧ ∀ G bx bi, H bx = none → H bi = none → BoxAt G bx bi → Kp No H G → Q (.ref bx) G
theorem ok_begun (T : Txt K mg A) : ∃ fd, FnOk P w K mg base CX0 1 (A.d 63) fd ["_law_script"] (spBegun K) ∧ Binds K fd ["_law_script"] [] := by
  obtain ⟨fd, F⟩ := T.begun.fn
  refine ⟨fd, F.ok scbegun (fun vs H Q E h => ?_) (fun cdv Ar outer s H vs Q E hr h => ?_), F.binds fun _ _ _ _ _ _ us hl => match us, hl with | [_], _ => rfl⟩
  · obtain ⟨a, ns, rfl, _⟩ := h
    rfl
  · obtain ⟨a, ns, rfl, hS, hl, k⟩ := h
    refine ⟨_, (pss_cons (ps_set (i := 1) scbegun.nd rfl (Or.inl rfl) pe_int)
      (pss_cons (ps_for PassesOwn.never rfl (pi_list (pv 0)) (pg_name (i := 2) scbegun.nd rfl (Or.inl rfl))
        (pss_one (ps_set (i := 1) scbegun.nd rfl (Or.inl rfl) (pe_op op_mod (pe_op op_add (pe_op op_add (pe_op op_mul (pv 1) pe_int) (pe_op op_mul (pv 2) pe_int)) pe_int) pe_int))))
      (pss_one (ps_ret (pe_lst (pa_cons (pe_callTy call_list_of (by rfl) T.list (by decide +kernel) (pa_cons (pv 0) pa_nil)) (pa_cons (pe_op op_mul (pv 1) (pe_callTy call_int1 (by rfl) T.int (by decide +kernel) (pa_cons (pe_cmpR op_gt (pe_callB call_len_seq (by rfl) T.len PySem.boot_len (pa_cons (pv 0) pa_nil)) pe_int (nomark _)) pa_nil))) pa_nil))))))), ?_⟩
    refine ⟨_, rfl, a, rfl, ⟨_, hS⟩, for_list (K := K) (a := a) (xs := ns.map V.int) (fun i σ G => G = H ∧ ∃ st o, σ = [some (.ref a), some (.int st), o] ∧ 0 ≤ st ∧ st < 2147483647) ⟨rfl, 0, none, rfl, by decide, by decide⟩ (fun i σ G _ ⟨e, _⟩ => by rw [e]; exact hS) ?_ ?_⟩
    · rintro i y σ G hi ⟨rfl, st, o, rfl, h0, h1⟩
      obtain ⟨z, rfl⟩ : ∃ z, y = V.int z := by
        rw [List.getElem?_map] at hi
        cases e : ns[i]? with
        | none =>
          rw [e] at hi
          cases hi
        | some z =>
          rw [e] at hi
          exact ⟨z, (Option.some.inj hi).symm⟩
      refine ⟨_, rfl, _, _, rfl, rfl, .inr (by decide), _, rfl, _, _, rfl, rfl, .inr (by decide), _, _, rfl, rfl, _, _, rfl, rfl, _, _, rfl, rfl, by show (0 : Int) < 2147483647; decide, ?_⟩
      exact ⟨rfl, _, _, rfl, Int.emod_nonneg _ (by decide), Int.emod_lt_of_pos _ (by decide)⟩
    · rintro σ G ⟨rfl, st, o, rfl, h0, h1⟩
      refine ⟨_, rfl, a, _, rfl, .inl hS, fun bi nbi => ?_⟩
      have hS2 : SqL K (upd G bi (.lst (ns.map V.int))) a (ns.map V.int) := Same.seq (fun b o e => by rw [upd_ne (ne_of_none e nbi)]; exact e) hS
      refine ⟨_, rfl, _, rfl, a, _, rfl, .inl hS2, _, _, rfl, rfl, .inr ⟨_, rfl, _, _, rfl, rfl, .inl ⟨by omega, by omega⟩, sz 2 (by decide), fun bx nbx => ?_⟩⟩
      obtain ⟨nxi, nbx'⟩ := upd_none nbx
      exact k _ bx bi nbx' nbi ⟨⟨ns, _, upd_same, by rw [upd_ne nxi.symm, upd_same], hl⟩, nxi⟩ ((Kp.new (F := No) nbi).andN nbx)
end
end S02

set_option Elab.async false
set_option linter.all false
set_option maxRecDepth 100000
set_option maxHeartbeats 1000000
/-! ### the law's own tables -/
namespace S02
open PySem PySem.Spec PyProof.Rows L2 K5 SupX GenX
def ofs (r h : Addr) (m num : Int) : List (Key × V) := [(.inr "rows", .ref r), (.inr "hands", .ref h), (.inr "moment", .int m), (.inr "number", .int num)]
/-- the keys are 0 to 31, each once -/
def RkAt (H : Hp) (a : Addr) : Prop := ∃ kvs, H a = some (.dK kvs) ∧ ∃ ks : List Int, kvs.map (·.1) = ks.map Sum.inl ∧ ks.Nodup ∧ ∀ k ∈ ks, 0 ≤ k ∧ k ≤ 31
theorem RkAt.kt {F : Addr → Prop} {H G : Hp} (k : Kt F H G) {a : Addr} (h : RkAt H a) (n : ¬ F a) : RkAt G a := let ⟨kvs, e, q⟩ := h; ⟨kvs, k.dK e n, q⟩
theorem RkAt.copy {H G : Hp} {a b : Addr} {kvs : List (Key × V)} (h : RkAt H a) (hd : H a = some (.dK kvs)) (hb : G b = some (.dK kvs)) : RkAt G b := by
  obtain ⟨kv2, e, q⟩ := h
  obtain rfl : kvs = kv2 := by rw [e] at hd; cases hd; rfl
  exact ⟨kvs, hb, q⟩
theorem RkAt.put {H : Hp} {a : Addr} {kvs : List (Key × V)} {j : Int} {v : V} (h : RkAt H a) (hd : H a = some (.dK kvs)) (h0 : 0 ≤ j) (h1 : j ≤ 31) : RkAt (upd H a (.dK (putK kvs (.inl j) v))) a := by
  obtain ⟨kv2, e, ks, e1, nd, r⟩ := h
  obtain rfl : kvs = kv2 := by rw [e] at hd; cases hd; rfl
  refine ⟨_, upd_same, ?_⟩
  rw [keys_put]
  split
  · exact ⟨ks, e1, nd, r⟩
  · rename_i hn
    have nj : j ∉ ks := fun z => hn (by rw [val_mem, e1]; exact List.mem_map.mpr ⟨j, z, rfl⟩)
    refine ⟨ks ++ [j], by rw [e1, List.map_append]; rfl, ?_, fun k hk => ?_⟩
    · rw [List.nodup_append]
      refine ⟨nd, by simp, fun x hx y hy z => ?_⟩
      rw [List.mem_singleton.mp hy] at z
      exact nj (z ▸ hx)
    · rcases List.mem_append.mp hk with z | z
      · exact r k z
      · rw [List.mem_singleton.mp z]; exact ⟨h0, h1⟩
theorem RkAt.del {H : Hp} {a : Addr} {kvs : List (Key × V)} {j : Int} (h : RkAt H a) (hd : H a = some (.dK kvs)) : RkAt (upd H a (.dK (dropK kvs (.inl j)))) a := by
  obtain ⟨kv2, e, ks, e1, nd, r⟩ := h
  obtain rfl : kvs = kv2 := by rw [e] at hd; cases hd; rfl
  refine ⟨_, upd_same, ks.filter (fun k => !decide (k = j)), ?_, nd.filter _, fun k hk => r k (List.mem_filter.mp hk).1⟩
  have : ∀ (ks : List Int) (kvs : List (Key × V)), kvs.map (·.1) = ks.map Sum.inl → (dropK kvs (.inl j)).map (·.1) = (ks.filter (fun k => !decide (k = j))).map Sum.inl := by
    intro ks
    induction ks with
    | nil =>
      intro kvs e
      have : kvs = [] := by simpa using e
      rw [this]
      rfl
    | cons k ks ih =>
      intro kvs e
      cases kvs with
      | nil => cases e
      | cons p kvs =>
        obtain ⟨e1, e2⟩ := List.cons.inj e
        obtain ⟨pk, pv⟩ := p
        have e1 : pk = Sum.inl k := e1
        subst e1
        have := ih kvs e2
        unfold dropK at this ⊢
        rw [List.filter_cons, List.filter_cons]
        by_cases hk : k = j
        · rw [if_neg (by simp [hk]), if_neg (by simp [hk])]
          exact this
        · rw [if_pos (by simp [hk]), if_pos (by simp [hk]), List.map_cons, List.map_cons, this]
  exact this ks kvs e1
structure StL (H : Hp) (s r h : Addr) (t : TT) (n : Nat) : Prop where
  dc : H s = some (.dK (ofs r h t.mom t.num))
  rows : RwAt H r t.rows n
  hands : HnAt H h t.hands n
  sr : s ≠ r
  sh : s ≠ h
  rh : r ≠ h
  rk : RkAt H r
theorem StL.kt {F : Addr → Prop} {H G : Hp} (k : Kt F H G) {s r h : Addr} {t : TT} {n : Nat} (S : StL H s r h t n) (nf : ∀ b kvs, H b = some (.dK kvs) → (b = s ∨ b = r ∨ b = h) → ¬ F b) : StL G s r h t n := by
  obtain ⟨k1, e1⟩ := S.rows.dc
  obtain ⟨k2, e2⟩ := S.hands.dc
  exact ⟨k.dK S.dc (nf _ _ S.dc (.inl rfl)), S.rows.kt k (nf _ _ e1 (.inr (.inl rfl))), S.hands.kt k (nf _ _ e2 (.inr (.inr rfl))), S.sr, S.sh, S.rh, S.rk.kt k (nf _ _ e1 (.inr (.inl rfl)))⟩
theorem StL.no {H G : Hp} {s r h : Addr} {t : TT} {n : Nat} (S : StL H s r h t n) (k : Kp No H G) : StL G s r h t n := S.kt k.t fun _ _ _ _ z => z
theorem StL.le {H : Hp} {s r h : Addr} {t : TT} {n m : Nat} (S : StL H s r h t n) (l : n ≤ m) : StL H s r h t m := ⟨S.dc, S.rows.le l, S.hands.le l, S.sr, S.sh, S.rh, S.rk⟩
theorem o_rows {r h : Addr} {m num : Int} : valV (ofs r h m num) (.inr "rows" : Key) = some (.ref r) := rfl
theorem o_hands {r h : Addr} {m num : Int} : valV (ofs r h m num) (.inr "hands" : Key) = some (.ref h) := rfl
theorem o_moment {r h : Addr} {m num : Int} : valV (ofs r h m num) (.inr "moment" : Key) = some (.int m) := rfl
theorem o_number {r h : Addr} {m num : Int} : valV (ofs r h m num) (.inr "number" : Key) = some (.int num) := rfl
theorem q_rows {r h x : Addr} {m num : Int} : putK (ofs r h m num) (.inr "rows" : Key) (.ref x) = ofs x h m num := rfl
theorem q_moment {r h : Addr} {m num x : Int} : putK (ofs r h m num) (.inr "moment" : Key) (.int x) = ofs r h x num := rfl
theorem q_number {r h : Addr} {m num x : Int} : putK (ofs r h m num) (.inr "number" : Key) (.int x) = ofs r h m x := rfl
/-- an item of a dict with text keys is read -/
theorem dgS {H : Hp} {a : Addr} {kvs : List (Key × V)} {k : Str} {v : V} (h : H a = some (.dK kvs)) (e : valV kvs (.inr k : Key) = some v) : DGet H a (.str k) (some v) := by
  have := DGet.k (k := Sum.inr k) h
  rw [e] at this
  exact this
section
variable {P : Program} {w : World} {K : PySem.W.Frag} {mg : Str → Option Value} {base : Heap} {A : Ad}
theorem scstore : FnScope [] [] (defScope s_store) := ⟨rfl, rfl, rfl, by decide +kernel, rfl, by decide +kernel, by decide +kernel⟩
def spStore : Sp := fun vs H Q _ => vs = [] ∧ ∀ G s r h, H s = none → H r = none → H h = none → StL G s r h TT.new 0 → Kp No H G → Q (.ref s) G
theorem ok_store (T : Txt K mg A) : ∃ fd, FnOk P w K mg base CX0 1 (A.d 65) fd [] spStore ∧ Binds K fd [] [] := by
  obtain ⟨fd, F⟩ := T.store.fn
  refine ⟨fd, F.ok scstore (fun vs H Q E h => ?_) (fun cdv Ar outer s H vs Q E hr h => ?_), F.binds fun _ _ _ _ _ _ us hl => match us, hl with | [], _ => rfl⟩
  · obtain ⟨rfl, _⟩ := h
    rfl
  · obtain ⟨rfl, k⟩ := h
    refine ⟨_, (pss_one (ps_ret (pe_disp (pps_cons pe_str pe_dnewK (pps_cons pe_str pe_dnewK (pps_cons pe_str pe_int (pps_cons pe_str pe_int pps_nil)))) (by rfl) (by rfl) (fun z => by cases z) (by decide)))), ?_⟩
    refine fun s ns r nr h nh => ?_
    obtain ⟨a1, nr'⟩ := upd_none nr
    obtain ⟨b1, nh'⟩ := upd_none nh
    obtain ⟨b2, nh'⟩ := upd_none nh'
    refine ⟨by rw [upd_ne b2.symm, upd_ne a1.symm, upd_same], ofs r h 0 0, rfl, by show 4 ≤ 15; decide, ?_⟩
    have e0 : mergeK [] (ofs r h 0 0) = ofs r h 0 0 := rfl
    rw [e0]
    refine k _ s r h ns nr' nh' ⟨upd_same, ⟨[], ?_, Nat.le_refl _, fun j => rfl⟩, ⟨[], ?_, Nat.le_refl _, ⟨⟨[], rfl, .nil⟩, fun _ z => absurd rfl z⟩, fun j => rfl⟩, a1.symm, b2.symm, b1.symm, ⟨[], ?_, [], rfl, .nil, fun _ z => nomatch z⟩⟩ ?_
    · rw [upd_ne a1, upd_ne b1.symm, upd_same]
    · rw [upd_ne b2, upd_same]
    · rw [upd_ne a1, upd_ne b1.symm, upd_same]
    · have kd : Kp (fun b => b = s) H _ := ((Kp.new (o := .dK []) ns).andN (o' := .dK []) nr).andN (o' := .dK []) nh
      exact kp_fresh (kd.andD (by rw [upd_ne b2.symm, upd_ne a1.symm, upd_same]) rfl) fun b z => by rw [z]; exact ns
theorem scseen : FnScope ["_law_store_here", "_law_key", "_law_row"] ["_law_store_here", "_law_key"] (defScope s_seen) := ⟨rfl, rfl, rfl, by decide +kernel, rfl, by decide +kernel, by decide +kernel⟩
def spSeen : Sp := fun vs H Q _ => ∃ (s r h : Addr) (j : Int) (t : TT) (n : Nat), vs = [.ref s, .int j] ∧ StL H s r h t n ∧ ∀ G, Kp No H G → Q (oV (seen t.mom t.rows j)) G
theorem ok_seen (T : Txt K mg A) : ∃ fd, FnOk P w K mg base CX0 1 (A.d 67) fd ["_law_store_here", "_law_key"] spSeen ∧ Binds K fd ["_law_store_here", "_law_key"] [] := by
  obtain ⟨fd, F⟩ := T.seen.fn
  refine ⟨fd, F.ok scseen (fun vs H Q E h => ?_) (fun cdv Ar outer s0 H vs Q E hr h => ?_), F.binds fun _ _ _ _ _ _ us hl => match us, hl with | [_, _], _ => rfl⟩
  · obtain ⟨s, r, h, j, t, n, rfl, _⟩ := h
    rfl
  · obtain ⟨s, r, h, j, t, n, rfl, S, k⟩ := h
    have hu := hu_of hr
    refine ⟨_, (pss_cons (ps_set (i := 2) scseen.nd rfl (Or.inl rfl) (pe_dget2 hu (pe_dget hu (pv 0) pe_str (fun _ _ => rfl)) (pv 1) (pe_tup (pa_cons pe_non (pa_cons pe_int pa_nil))) ⟨rfl, rfl, rfl, rfl⟩))
      (pss_one (ps_ret (pe_ifExp (PW.pt (pw_or (pt_cmpR op_eq (pe_ix ix_tup (pv 2) pe_int (fun _ _ => rfl)) pe_int (nomark _)) (pw_or1 (pt_cmpR op_gt (pe_ix ix_tup (pv 2) pe_int (fun _ _ => rfl)) (pe_dget hu (pv 0) pe_str (fun _ _ => rfl)) (nomark _))))) (pe_ix ix_tup (pv 2) pe_int (fun _ _ => rfl)) pe_non)))), ?_⟩
    obtain ⟨kvs, hd, hl, hf⟩ := S.rows
    refine ⟨_, rfl, s, _, rfl, dgS S.dc o_rows, r, rfl, .inl ⟨kvs, .inl hd⟩, _, rfl, sz 2 (by decide), fun u nu => ?_⟩
    have ku : Kp No H (upd H u (.tup [.non, .int 0])) := Kp.new nu
    have hd2 := (upd_ne (o := .tup [V.non, .int 0]) (ne_of_none hd nu)).trans hd
    have hs2 := (upd_ne (o := .tup [V.non, .int 0]) (ne_of_none S.dc nu)).trans S.dc
    have q := hf j
    have kk := k _ ku
    unfold seen at kk
    refine ⟨_, DGet.k (k := Sum.inl j) hd2, ?_⟩
    cases e : t.rows j with
    | none =>
      rw [e] at q kk
      rw [q]
      refine ⟨_, rfl, u, _, 1, _, rfl, rfl, SqT.of upd_same, rfl, rfl, _, rfl, iteT (iteT ?_)⟩
      exact ⟨_, rfl, u, _, 0, _, rfl, rfl, SqT.of upd_same, rfl, kk⟩
    | some p =>
      obtain ⟨wt, en⟩ := p
      rw [e] at q kk
      obtain ⟨t1, q1, q2⟩ := q
      rw [q1]
      have ht := (upd_ne (o := .tup [V.non, .int 0]) (ne_of_none q2 nu)).trans q2
      have kk : Q (oV (if shB en t.mom = true then some wt else none)) _ := kk
      unfold shB at kk
      refine ⟨_, rfl, t1, _, 1, _, rfl, rfl, SqT.of ht, rfl, rfl, _, rfl, ?_⟩
      have yes : ∀ G, G = upd H u (.tup [V.non, .int 0]) → Q (oV (some wt)) G → tRet (tOp (rIxT K) (tVar 2) (tC (.int 0))) { nx := fun _ G => Q .non G, rt := Q } [some (.ref s), some (.int j), some (.ref t1)] G := fun G e q => by
        subst e
        exact ⟨_, rfl, t1, _, 0, _, rfl, rfl, SqT.of ht, rfl, q⟩
      by_cases h1 : en = 0
      · have : decide (V.int en = V.int 0) = true := by rw [h1]; rfl
        rw [this]
        rw [decide_eq_true h1, Bool.true_or, if_pos rfl] at kk
        exact iteT (iteT (yes _ rfl kk))
      · have : decide (V.int en = V.int 0) = false := by simpa using h1
        rw [this]
        rw [decide_eq_false h1, Bool.false_or] at kk
        refine iteF ⟨_, rfl, t1, _, 1, _, rfl, rfl, SqT.of ht, rfl, _, rfl, s, _, rfl, dgS hs2 o_moment, _, _, rfl, rfl, _, rfl, ?_⟩
        by_cases h2 : t.mom < en
        · rw [decide_eq_true h2, if_pos rfl] at kk
          rw [decide_eq_true h2]
          exact iteT (yes _ rfl kk)
        · rw [decide_eq_false h2] at kk
          rw [decide_eq_false h2]
          exact iteF kk
end
end S02

set_option Elab.async false
set_option linter.all false
set_option maxRecDepth 100000
set_option maxHeartbeats 2000000
namespace S02
open PySem PySem.Spec PyProof.Rows L2 K5 SupX GenX
section
variable {P : Program} {w : World} {K : PySem.W.Frag} {mg : Str → Option Value} {base : Heap} {A : Ad}
theorem scagain : FnScope ["_law_store_here", "_law_found"] ["_law_store_here"] (defScope s_again) := ⟨rfl, rfl, rfl, by decide +kernel, rfl, by decide +kernel, by decide +kernel⟩
def spAgain : Sp := fun vs H Q _ => ∃ (s r h : Addr) (t : TT) (n : Nat), vs = [.ref s] ∧ StL H s r h t n ∧ ∀ G s' r' h', H s' = none → H r' = none → H h' = none → StL G s' r' h' t n → Kp No H G → Q (.ref s') G
theorem ok_again (T : Txt K mg A) : ∃ fd, FnOk P w K mg base CX0 1 (A.d 66) fd ["_law_store_here"] spAgain ∧ Binds K fd ["_law_store_here"] [] := by
  obtain ⟨fd, F⟩ := T.again.fn
  refine ⟨fd, F.ok scagain (fun vs H Q E h => ?_) (fun cdv Ar outer s0 H vs Q E hr h => ?_), F.binds fun _ _ _ _ _ _ us hl => match us, hl with | [_], _ => rfl⟩
  · obtain ⟨s, r, h, t, n, rfl, _⟩ := h
    rfl
  · obtain ⟨s, r, h, t, n, rfl, S, k⟩ := h
    have hu := hu_of hr
    refine ⟨_, (pss_cons (ps_set (i := 1) scagain.nd rfl (Or.inl rfl) (pe_disp (pps_cons pe_str (pe_callTy call_dictD (by rfl) T.dict (by decide +kernel) (pa_cons (pe_dget hu (pv 0) pe_str (fun _ _ => rfl)) pa_nil)) (pps_cons pe_str (pe_callTy call_dictD (by rfl) T.dict (by decide +kernel) (pa_cons (pe_dget hu (pv 0) pe_str (fun _ _ => rfl)) pa_nil)) pps_nil)) (by rfl) (by rfl) (fun z => by cases z) (by decide)))
      (pss_cons (ps_expr (pe_bm PySem.F.plainAttrs_dict PySem.F.slot_dict_update PySem.F.type_dict_update (mt_updP rfl) (pv 1) (pa_cons (pe_lst (pa_cons (pe_tup (pa_cons pe_str (pa_cons (pe_dget hu (pv 0) pe_str (fun _ _ => rfl)) pa_nil))) (pa_cons (pe_tup (pa_cons pe_str (pa_cons (pe_dget hu (pv 0) pe_str (fun _ _ => rfl)) pa_nil))) pa_nil))) pa_nil)))
      (pss_one (ps_ret (pv 1))))), ?_⟩
    obtain ⟨kr, hdr⟩ := S.rows.dc
    obtain ⟨kh, hdh⟩ := S.hands.dc
    refine fun d nd => ?_
    have k1 : Kp No H (upd H d (.dK [])) := Kp.new nd
    have ks1 := k1.t.dK S.dc fun z => z
    have kr1 := k1.t.dK hdr fun z => z
    refine ⟨_, rfl, s, _, rfl, dgS ks1 o_rows, r, kr, rfl, .inl kr1, fun r' nr => ?_⟩
    have k2 := k1.andN (o' := .dK kr) nr
    refine ⟨_, rfl, s, _, rfl, dgS (k2.t.dK S.dc fun z => z) o_hands, h, kh, rfl, .inl (k2.t.dK hdh fun z => z), fun h' nh => ?_⟩
    have k3 := k2.andN (o' := .dK kh) nh
    obtain ⟨a1, nr'⟩ := upd_none nr
    obtain ⟨b1, nh'⟩ := upd_none nh
    obtain ⟨b2, nh'⟩ := upd_none nh'
    have hd3 : upd (upd (upd H d (.dK [])) r' (.dK kr)) h' (.dK kh) d = some (.dK []) := by rw [upd_ne b2.symm, upd_ne a1.symm, upd_same]
    refine ⟨hd3, [(.inr "rows", .ref r'), (.inr "hands", .ref h')], rfl, by show 2 ≤ 15; decide, ?_⟩
    have e0 : mergeK [] [((.inr "rows" : Key), V.ref r'), (.inr "hands", .ref h')] = [(.inr "rows", .ref r'), (.inr "hands", .ref h')] := rfl
    rw [e0]
    have kd : Kp (fun b => b = d) H (upd (upd (upd H d (.dK [])) r' (.dK kr)) h' (.dK kh)) := (((Kp.new (o := .dK []) nd).andN (o' := .dK kr) nr).andN (o' := .dK kh) nh)
    have kd4 : Kp (fun b => b = d) H (upd (upd (upd (upd H d (.dK [])) r' (.dK kr)) h' (.dK kh)) d (.dK [(.inr "rows", .ref r'), (.inr "hands", .ref h')])) := kd.andD hd3 rfl
    have k4 : Kp No H _ := kp_fresh kd4 fun b z => by rw [z]; exact nd
    generalize hG4 : upd (upd (upd (upd H d (.dK [])) r' (.dK kr)) h' (.dK kh)) d (.dK [(.inr "rows", .ref r'), (.inr "hands", .ref h')]) = G4 at kd4 k4 ⊢
    have g4d : G4 d = some (.dK [(.inr "rows", .ref r'), (.inr "hands", .ref h')]) := by rw [← hG4, upd_same]
    have g4r : G4 r' = some (.dK kr) := by rw [← hG4, upd_ne a1, upd_ne b1.symm, upd_same]
    have g4h : G4 h' = some (.dK kh) := by rw [← hG4, upd_ne b2, upd_same]
    refine ⟨_, rfl, .inr (.inr (.inl ⟨rfl, .inl ⟨_, g4d⟩⟩)), _, rfl, s, _, rfl, dgS (k4.t.dK S.dc fun z => z) o_moment, sz 2 (by decide), fun p1 n1 => ?_⟩
    have k5 := k4.andN (o' := .tup [.str "moment", .int t.mom]) n1
    refine ⟨_, rfl, s, _, rfl, dgS (k5.t.dK S.dc fun z => z) o_number, sz 2 (by decide), fun p2 n2 => ?_⟩
    have k6 := k5.andN (o' := .tup [.str "number", .int t.num]) n2
    refine ⟨sz 2 (by decide), fun l nl => ?_⟩
    have q4 : Kp No G4 (upd (upd (upd G4 p1 (.tup [.str "moment", .int t.mom])) p2 (.tup [.str "number", .int t.num])) l (.lst [.ref p1, .ref p2])) := ((Kp.new n1).andN n2).andN nl
    have g7d := q4.t.dK g4d fun z => z
    obtain ⟨c1, _⟩ := upd_none n2
    obtain ⟨c2, nl2⟩ := upd_none nl
    obtain ⟨c3, _⟩ := upd_none nl2
    refine ⟨d, l, [p1, p2], [(.inr "rows", .ref r'), (.inr "hands", .ref h')], [(.inr "moment", .int t.mom), (.inr "number", .int t.num)], rfl, rfl, g7d, SqL.of upd_same, .cons (SqT.of (by rw [upd_ne c3.symm, upd_ne c1.symm, upd_same]; rfl)) (.cons (SqT.of (by rw [upd_ne c2.symm, upd_same]; rfl)) .nil), sz 4 (by decide), ?_⟩
    have e1 : mergeK [((.inr "rows" : Key), V.ref r'), (.inr "hands", .ref h')] [(.inr "moment", .int t.mom), (.inr "number", .int t.num)] = ofs r' h' t.mom t.num := rfl
    rw [e1]
    have k7 : Kp (fun b => b = d) H _ := (kd4.trans (F' := No) q4 fun _ z => False.elim z).andD (o' := .dK (ofs r' h' t.mom t.num)) g7d rfl
    have k8 : Kp No H _ := kp_fresh k7 fun b z => by rw [z]; exact nd
    have g8r : upd (upd (upd (upd G4 p1 (.tup [.str "moment", .int t.mom])) p2 (.tup [.str "number", .int t.num])) l (.lst [.ref p1, .ref p2])) d (.dK (ofs r' h' t.mom t.num)) r' = some (.dK kr) := by rw [upd_ne a1]; exact q4.t.dK g4r fun z => z
    have g8h : upd (upd (upd (upd G4 p1 (.tup [.str "moment", .int t.mom])) p2 (.tup [.str "number", .int t.num])) l (.lst [.ref p1, .ref p2])) d (.dK (ofs r' h' t.mom t.num)) h' = some (.dK kh) := by rw [upd_ne b2]; exact q4.t.dK g4h fun z => z
    exact ⟨_, rfl, k _ d r' h' nd nr' nh' ⟨upd_same, S.rows.copy hdr g8r k8.t, S.hands.copy hdh g8h k8.t, a1.symm, b2.symm, b1.symm, S.rk.copy hdr g8r⟩ k8⟩
end
end S02

set_option Elab.async false
set_option linter.all false
set_option maxRecDepth 100000
set_option maxHeartbeats 2000000
namespace S02
open PySem PySem.Spec PyProof.Rows L2 K5 SupX GenX
theorem split_at {α : Type} {xs : List α} {i : Nat} {x : α} (h : xs[i]? = some x) : xs = xs.take i ++ x :: xs.drop (i + 1) := by
  obtain ⟨h1, h2⟩ := List.getElem?_eq_some_iff.mp h
  conv => lhs; rw [← List.take_append_drop i xs]
  rw [List.drop_eq_getElem_cons h1, h2]
theorem scal_oV (a b : Option Int) : scal (oV a) (oV b) = true := by cases a <;> cases b <;> rfl
section
variable {P : Program} {w : World} {K : PySem.W.Frag} {mg : Str → Option Value} {base : Heap} {A : Ad}
theorem sctried : FnScope ["_law_store_here", "_law_deal_here", "_law_trial", "_law_deed_here", "_law_key", "_law_worth"] ["_law_store_here", "_law_deal_here"] (defScope s_tried) := ⟨rfl, rfl, rfl, by decide +kernel, rfl, by decide +kernel, by decide +kernel⟩
def spTried : Sp := fun vs H Q _ => ∃ (s r h : Addr) (v : V) (t : TT) (n : Nat) (ds : List Dd), vs = [.ref s, v] ∧ StL H s r h t n ∧ DsAt H v ds ∧ (∀ d ∈ ds, d.ok = true) ∧ n + ds.length ≤ 15000 ∧
  ∀ G, Kp No H G → (steps t.mom t.rows ds = none → Q .non G) ∧ ∀ f b, steps t.mom t.rows ds = some f → H b = none → RwAt G b f (n + ds.length) → RkAt G b → Q (.ref b) G
theorem ok_tried (T : Txt K mg A) : ∃ fd, FnOk P w K mg base CX0 2 (A.d 68) fd ["_law_store_here", "_law_deal_here"] spTried ∧ Binds K fd ["_law_store_here", "_law_deal_here"] [] := by
  obtain ⟨fd, F⟩ := T.tried.fn
  obtain ⟨fdA, Gagain, bagain⟩ := ok_again (P := P) (w := w) (base := base) T
  obtain ⟨fdS, Gseen, bseen⟩ := ok_seen (P := P) (w := w) (base := base) T
  refine ⟨fd, F.ok sctried (fun vs H Q E h => ?_) (fun cdv Ar outer s0 H vs Q E hr h => ?_), F.binds fun _ _ _ _ _ _ us hl => match us, hl with | [_, _], _ => rfl⟩
  · obtain ⟨s, r, h, v, t, n, ds, rfl, _⟩ := h
    rfl
  · obtain ⟨s, r, h, v, t, n, ds, rfl, S, ⟨u, xs, rfl, hu2, pa, hl⟩, hdok, hn, k⟩ := h
    have hu := hu_of hr
    refine ⟨_, (pss_cons (ps_set (i := 2) sctried.nd rfl (Or.inl rfl) (pe_call Gagain (hr.mono (by first | decide | omega)) rfl T.again.at_ T.again.kp bagain .nil pass0 (pa_cons (pv 0) pa_nil)))
      (pss_cons (ps_for PassesOwn.never rfl (pi_tup (pv 1)) (pg_name (i := 3) sctried.nd rfl (Or.inl rfl))
        (pss_cons (ps_set (i := 4) sctried.nd rfl (Or.inl rfl) (pe_ix ix_tup (pv 3) pe_int (fun _ _ => rfl)))
        (pss_cons (ps_set (i := 5) sctried.nd rfl (Or.inl rfl) (pe_call Gseen (hr.mono (by first | decide | omega)) rfl T.seen.at_ T.seen.kp bseen .nil pass0 (pa_cons (pv 2) (pa_cons (pv 4) pa_nil))))
        (pss_one (ps_if (pt_cmpR op_eq (pe_ix ix_tup (pv 3) pe_int (fun _ _ => rfl)) pe_str (nomark _))
          (pss_one (ps_dput hu (pe_dget hu (pv 2) pe_str (fun _ _ => rfl)) (pv 4) (pe_tup (pa_cons (pe_ix ix_tup (pv 3) pe_int (fun _ _ => rfl)) (pa_cons (pe_ifExp (pt_cmpR op_eq (pe_ix ix_tup (pv 3) pe_int (fun _ _ => rfl)) pe_int (nomark _)) pe_int (pe_op op_add (pe_dget hu (pv 0) pe_str (fun _ _ => rfl)) (pe_ix ix_tup (pv 3) pe_int (fun _ _ => rfl)))) pa_nil))) rfl))
          (pss_one (ps_if (pt_cmpR op_eq (pe_ix ix_tup (pv 3) pe_int (fun _ _ => rfl)) pe_str (nomark _))
            (pss_one (ps_expr (pe_dpop2 (pe_dget hu (pv 2) pe_str (fun _ _ => rfl)) (pv 4) pe_non ⟨rfl, rfl, rfl, rfl⟩)))
            (pss_one (ps_if (pt_cmpR op_eq (pe_ix ix_tup (pv 3) pe_int (fun _ _ => rfl)) pe_str (nomark _))
              (pss_one (ps_if (pt_cmpR op_ne (pv 5) (pe_ix ix_tup (pv 3) pe_int (fun _ _ => rfl)) (nomark _))
                (pss_one (ps_ret pe_non))
                pss_nil))
              (pss_one (ps_if (PW.pt (pw_or (pt_cmp (pc_isN (pv 5))) (pw_or1 (pt_not (pt_chain op_le op_le pe_int (pe_op op_add (pv 5) (pe_ix ix_tup (pv 3) pe_int (fun _ _ => rfl))) pe_int)))))
                (pss_one (ps_ret pe_non))
                (pss_one (ps_dput hu (pe_dget hu (pv 2) pe_str (fun _ _ => rfl)) (pv 4) (pe_tup (pa_cons (pe_op op_add (pv 5) (pe_ix ix_tup (pv 3) pe_int (fun _ _ => rfl))) (pa_cons (pe_ix ix_tup (pe_dget hu (pe_dget hu (pv 2) pe_str (fun _ _ => rfl)) (pv 4) (fun _ _ => rfl)) pe_int (fun _ _ => rfl)) pa_nil))) rfl)))))))))))))
      (pss_one (ps_ret (pe_dget hu (pv 2) pe_str (fun _ _ => rfl)))))), ?_⟩
    refine ⟨_, rfl, s, r, h, t, n, rfl, S, fun G0 s' r' h' ns nr nh S' k0 => ?_⟩
    have frz : ∀ {G}, Kp (fun b => b = r') G0 G → Kp No H G := fun kp => k0.trans kp fun b z => .inr (by rw [z]; exact nr)
    refine ⟨_, rfl, u, rfl, ⟨_, SqT.of (k0.t.tup hu2)⟩, for_tup (K := K) (a := u) (xs := xs) (fun i σ G => Kp (fun b => b = r') G0 G ∧ (∃ o1 o2 o3, σ = [some (.ref s), some (.ref u), some (.ref s'), o1, o2, o3]) ∧ ∃ f, steps t.mom t.rows (ds.take i) = some f ∧ RwAt G r' f (n + i) ∧ RkAt G r') ⟨Kp.refl _ _, ⟨none, none, none, rfl⟩, t.rows, rfl, S'.rows, S'.rk⟩ (fun i σ G _ ⟨kp, _⟩ => SqT.of ((frz kp).t.tup hu2)) ?_ ?_⟩
    · rintro i x σ G hx ⟨kp, ⟨o1, o2, o3, rfl⟩, f, hf, R, RK⟩
      obtain ⟨d, hd, e, rfl, he⟩ := paired_at pa hx
      have hil : i < ds.length := (List.getElem?_eq_some_iff.mp hd).1
      have sp1 : ds = ds.take i ++ d :: ds.drop (i + 1) := split_at hd
      have heG : G e = some (.tup d.vs) := (frz kp).t.tup he
      have S2 : StL G s' r' h' ⟨f, t.mom, t.num, t.hands⟩ (n + i) := by
        have dh := S'.hands.dc
        obtain ⟨kh, hkh⟩ := dh
        exact ⟨kp.t.dK S'.dc S'.sr, R, (S'.hands.kt kp.t S'.rh.symm).le (by omega), S'.sr, S'.sh, S'.rh, RK⟩
      have none_ : step t.mom f d = none → ∀ G3, Kp No G G3 → Q .non G3 := fun s0 G3 k3 => (k G3 ((frz kp).trans k3 fun _ z => False.elim z)).1 (by rw [sp1, steps_app hf]; simp only [steps, s0])
      have some_ : ∀ f2, step t.mom f d = some f2 → steps t.mom t.rows (ds.take (i + 1)) = some f2 := fun f2 s2 => by rw [take_snoc hd, steps_app hf]; simp only [steps, s2]
      refine ⟨_, rfl, e, _, 1, .int d.key, rfl, rfl, SqT.of heG, (by cases d <;> rfl), ?_⟩
      refine ⟨_, rfl, _, rfl, s', r', h', d.key, ⟨f, t.mom, t.num, t.hands⟩, n + i, rfl, S2, fun G2 k2 => ?_⟩
      have he2 : G2 e = some (.tup d.vs) := k2.t.tup heG
      have R2 : RwAt G2 r' f (n + i) := R.kt k2.t fun z => z
      have s2dc : G2 s' = some (.dK (ofs r' h' t.mom t.num)) := k2.t.dK S2.dc fun z => z
      have sdc : G2 s = some (.dK (ofs r h t.mom t.num)) := ((frz kp).trans k2 fun _ z => False.elim z).t.dK S.dc fun z => z
      have RK2 : RkAt G2 r' := RK.kt k2.t fun z => z
      have hdk := hdok d (List.mem_of_getElem? hd)
      have R2' := R2
      obtain ⟨kvs, hdr, hkl, hfk⟩ := R2'
      have kp2 : Kp (fun b => b = r') G0 G2 := kp.trans (F' := No) k2 fun _ z => False.elim z
      cases d with
      | put j wt l =>
        have hj : 0 ≤ j ∧ j ≤ 31 := by simp only [Dd.ok, Bool.and_eq_true, inB_t] at hdk; omega
        refine ⟨_, rfl, e, _, 0, .str "put", rfl, rfl, SqT.of he2, rfl, rfl, _, rfl, iteT ?_⟩
        refine ⟨_, rfl, e, _, 2, .int wt, rfl, rfl, SqT.of he2, rfl, ?_⟩
        refine ⟨_, rfl, e, _, 3, .int l, rfl, rfl, SqT.of he2, rfl, rfl, _, rfl, ?_⟩
        refine ite2 (fun h0 => ?_) (fun h0 => ⟨_, rfl, s, _, rfl, dgS sdc o_moment, _, rfl, e, _, 3, .int l, rfl, rfl, SqT.of he2, rfl, _, _, rfl, rfl, ?_⟩)
        all_goals
          refine ⟨sz 2 (by decide), fun q nq => ?_⟩
          refine ⟨_, rfl, s', _, rfl, dgS ((upd_ne (ne_of_none s2dc nq)).trans s2dc) o_rows, _, rfl, r', _, rfl, DPut.k (k := Sum.inl j) ((upd_ne (ne_of_none hdr nq)).trans hdr) (szL (by omega)), ?_⟩
          refine ⟨(kp2.andN nq).andD ((upd_ne (ne_of_none hdr nq)).trans hdr) rfl, ⟨_, _, _, rfl⟩, _, some_ _ ?_, (R2.kt (Kp.new (F := No) nq).t fun z => z).put (k := j) ((upd_ne (ne_of_none hdr nq)).trans hdr) upd_same, (RK2.kt (Kp.new (F := No) nq).t fun z => z).put (j := j) ((upd_ne (ne_of_none hdr nq)).trans hdr) hj.1 hj.2⟩
          simp only [step]
          first
            | rw [if_pos (by simpa using h0)]
            | rw [if_neg (by simpa using h0)]
      | drop j =>
        refine ⟨_, rfl, e, _, 0, .str "drop", rfl, rfl, SqT.of he2, rfl, rfl, _, rfl, iteF ?_⟩
        refine ⟨_, rfl, e, _, 0, .str "drop", rfl, rfl, SqT.of he2, rfl, rfl, _, rfl, iteT ?_⟩
        refine ⟨_, rfl, s', _, rfl, dgS s2dc o_rows, r', rfl, .inl ⟨kvs, .inl hdr⟩, _, rfl, kvs, Sum.inl j, hdr, rfl, fun v hv => ?_, fun hv => ?_⟩
        · exact ⟨kp2.andD hdr rfl, ⟨_, _, _, rfl⟩, _, some_ _ rfl, (R2.del (k := j) hdr).le (by omega), RK2.del (j := j) hdr⟩
        · have ef : f.set j none = f := set_none (by
            have := hfk j
            cases e : f j with
            | none => rfl
            | some q =>
              obtain ⟨w', e'⟩ := q
              rw [e] at this
              obtain ⟨t', h1, _⟩ := this
              rw [hv] at h1
              cases h1)
          exact ⟨kp2, ⟨_, _, _, rfl⟩, _, some_ _ rfl, by rw [ef]; exact R2.le (by omega), RK2⟩
      | iff j x =>
        refine ⟨_, rfl, e, _, 0, .str "if", rfl, rfl, SqT.of he2, rfl, rfl, _, rfl, iteF ?_⟩
        refine ⟨_, rfl, e, _, 0, .str "if", rfl, rfl, SqT.of he2, rfl, rfl, _, rfl, iteF ?_⟩
        refine ⟨_, rfl, e, _, 0, .str "if", rfl, rfl, SqT.of he2, rfl, rfl, _, rfl, iteT ?_⟩
        refine ⟨_, rfl, _, rfl, e, _, 2, oV x, rfl, rfl, SqT.of he2, rfl, ?_, _, rfl, ?_⟩
        · exact scal_oV _ _
        · show (if (!decide (oV (seen t.mom f j) = oV x)) = true then _ else _)
          rw [oV_eq]
          by_cases hs : seen t.mom f j = x
          · rw [decide_eq_true hs]
            exact iteF ⟨kp2, ⟨_, _, _, rfl⟩, f, some_ _ (by simp only [step, hs, if_true]), R2.le (by omega), RK2⟩
          · rw [decide_eq_false hs]
            exact iteT (none_ (by simp only [step, hs, if_false]) _ k2)
      | add j x =>
        have hj : 0 ≤ j ∧ j ≤ 31 := by simp only [Dd.ok, Bool.and_eq_true, inB_t] at hdk; omega
        refine ⟨_, rfl, e, _, 0, .str "add", rfl, rfl, SqT.of he2, rfl, rfl, _, rfl, iteF ?_⟩
        refine ⟨_, rfl, e, _, 0, .str "add", rfl, rfl, SqT.of he2, rfl, rfl, _, rfl, iteF ?_⟩
        refine ⟨_, rfl, e, _, 0, .str "add", rfl, rfl, SqT.of he2, rfl, rfl, _, rfl, iteF ?_⟩
        have q := hfk j
        cases ef : f j with
        | none =>
          have z0 : seen t.mom f j = none := by simp only [seen, ef]
          have s0 : step t.mom f (.add j x) = none := by simp only [step, ef]
          show tIfS _ _ _ _ [some (.ref s), some (.ref u), some (.ref s'), some (.ref e), some (.int j), some (oV (seen t.mom f j))] G2
          rw [z0]
          exact ⟨_, rfl, _, rfl, iteT (iteT (none_ s0 _ k2))⟩
        | some p =>
          obtain ⟨wt, en⟩ := p
          rw [ef] at q
          obtain ⟨t1, q1, q2⟩ := q
          show tIfS _ _ _ _ [some (.ref s), some (.ref u), some (.ref s'), some (.ref e), some (.int j), some (oV (seen t.mom f j))] G2
          by_cases hs : shB en t.mom = true
          · have z0 : seen t.mom f j = some wt := by simp only [seen, ef, hs, if_true]
            rw [z0]
            refine ⟨_, rfl, _, rfl, iteF ?_⟩
            refine ⟨_, rfl, _, rfl, e, _, 2, .int x, rfl, rfl, SqT.of he2, rfl, _, _, rfl, rfl, _, _, rfl, rfl, _, rfl, ?_⟩
            have no : inB 0 999 (wt + x) = false → ∀ G3, Kp No G G3 → Q .non G3 := fun hb => none_ (by simp only [step, ef, hs, hb]; rfl)
            have go : inB 0 999 (wt + x) = true → step t.mom f (.add j x) = some (f.set j (some (wt + x, en))) := fun hb => by simp only [step, ef, hs, hb]; rfl
            by_cases h1 : 0 ≤ wt + x
            · rw [decide_eq_true h1]
              refine iteT ⟨_, _, rfl, rfl, _, rfl, ?_⟩
              by_cases h2 : wt + x ≤ 999
              · rw [decide_eq_true h2]
                refine iteF ?_
                refine ⟨_, rfl, _, rfl, e, _, 2, .int x, rfl, rfl, SqT.of he2, rfl, _, _, rfl, rfl, _, rfl, s', _, rfl, dgS s2dc o_rows, _, rfl, r', _, rfl, (by have := DGet.k (k := Sum.inl j) hdr; rw [q1] at this; exact this), t1, _, 1, .int en, rfl, rfl, SqT.of q2, rfl, sz 2 (by decide), fun q nq => ?_⟩
                refine ⟨_, rfl, s', _, rfl, dgS ((upd_ne (ne_of_none s2dc nq)).trans s2dc) o_rows, _, rfl, r', _, rfl, DPut.k (k := Sum.inl j) ((upd_ne (ne_of_none hdr nq)).trans hdr) (szL (by omega)), ?_⟩
                exact ⟨(kp2.andN nq).andD ((upd_ne (ne_of_none hdr nq)).trans hdr) rfl, ⟨_, _, _, rfl⟩, _, some_ _ (go (inB_t.mpr ⟨h1, h2⟩)), (R2.kt (Kp.new (F := No) nq).t fun z => z).put (k := j) ((upd_ne (ne_of_none hdr nq)).trans hdr) upd_same, (RK2.kt (Kp.new (F := No) nq).t fun z => z).put (j := j) ((upd_ne (ne_of_none hdr nq)).trans hdr) hj.1 hj.2⟩
              · rw [decide_eq_false h2]
                exact iteT (no (by simp [inB, h2]) _ k2)
            · rw [decide_eq_false h1]
              exact iteF ⟨_, rfl, iteT (no (by simp [inB, h1]) _ k2)⟩
          · have z0 : seen t.mom f j = none := by simp only [seen, ef, hs, if_false]; rfl
            have s0 : step t.mom f (.add j x) = none := by simp only [step, ef, hs, false_and, if_false]; rfl
            rw [z0]
            exact ⟨_, rfl, _, rfl, iteT (iteT (none_ s0 _ k2))⟩
    · rintro σ G ⟨kp, ⟨o1, o2, o3, rfl⟩, f, hf, R, RK⟩
      rw [pa.length, List.take_length] at hf
      rw [pa.length] at R
      exact ⟨_, rfl, s', _, rfl, dgS (kp.t.dK S'.dc S'.sr) o_rows, (k G (frz kp)).2 f r' hf nr R RK⟩
end
end S02

set_option Elab.async false
set_option linter.all false
set_option maxRecDepth 100000
set_option maxHeartbeats 2000000
namespace S02
open PySem PySem.Spec PyProof.Rows L2 K5 SupX GenX
def oR : Option Addr → V
  | none => .non
  | some b => .ref b
section
variable {P : Program} {w : World} {K : PySem.W.Frag} {mg : Str → Option Value} {base : Heap} {A : Ad}
theorem scdeal : FnScope ["_law_store_here", "_law_hand", "_law_letter", "_law_deal_here", "_law_rows"] ["_law_store_here", "_law_hand", "_law_letter", "_law_deal_here"] (defScope s_deal) := ⟨rfl, rfl, rfl, by decide +kernel, rfl, by decide +kernel, by decide +kernel⟩
def spDeal : Sp := fun vs H Q _ => ∃ (s r h : Addr) (hand x : Int) (v : V) (t : TT) (n : Nat) (ds : List Dd), vs = [.ref s, .int hand, .int x, v] ∧ StL H s r h t n ∧ DsAt H v ds ∧ (∀ d ∈ ds, d.ok = true) ∧ n + ds.length ≤ 14000 ∧ 0 ≤ hand ∧ hand ≤ 3 ∧ 1 ≤ x ∧
  ∀ G r' u, (r' = r ∨ H r' = none) → Kp (fun b => b = s ∨ b = h) H G → StL G s r' h (dl1 t ⟨hand, x, ds⟩) (n + ds.length + 1) → G u = some (.tup [.int (toldOf (dl1 t ⟨hand, x, ds⟩) hand).1, .bl (toldOf (dl1 t ⟨hand, x, ds⟩) hand).2]) → Q (.ref u) G
theorem ok_deal (T : Txt K mg A) : ∃ fd, FnOk P w K mg base CX0 3 (A.d 69) fd ["_law_store_here", "_law_hand", "_law_letter", "_law_deal_here"] spDeal ∧ Binds K fd ["_law_store_here", "_law_hand", "_law_letter", "_law_deal_here"] [] := by
  obtain ⟨fd, F⟩ := T.deal.fn
  obtain ⟨fdT, Gtried, btried⟩ := ok_tried (P := P) (w := w) (base := base) T
  refine ⟨fd, F.ok scdeal (fun vs H Q E h => ?_) (fun cdv Ar outer s0 H vs Q E hr h => ?_), F.binds fun _ _ _ _ _ _ us hl => match us, hl with | [_, _, _, _], _ => rfl⟩
  · obtain ⟨s, r, h, hand, x, v, t, n, ds, rfl, _⟩ := h
    rfl
  · obtain ⟨s, r, h, hand, x, v, t, n, ds, rfl, S, hds, hdok, hn, g0, g3, hx1, k⟩ := h
    have hu := hu_of hr
    refine ⟨_, (pss_cons (ps_if (pt_cmpR op_ne (pe_ix ix_tup (pe_dget2 hu (pe_dget hu (pv 0) pe_str (fun _ _ => rfl)) (pv 1) (pe_tup (pa_cons pe_int pa_nil)) ⟨rfl, rfl, rfl, rfl⟩) pe_int (fun _ _ => rfl)) (pv 2) (nomark _))
        (C8.pss_cut (ps_set (i := 4) scdeal.nd rfl (Or.inl rfl) (pe_call Gtried (hr.mono (by first | decide | omega)) rfl T.tried.at_ T.tried.kp btried .nil pass0 (pa_cons (pv 0) (pa_cons (pv 3) pa_nil))))
        (pss_cons (ps_dput hu (pv 0) pe_str (pe_op op_add (pe_dget hu (pv 0) pe_str (fun _ _ => rfl)) pe_int) rfl)
        (C8.pss_cut (ps_if (pt_cmp (pc_notN (pv 4)))
          (pss_one (ps_dput hu (pv 0) pe_str (pv 4) rfl))
          pss_nil)
        (pss_one (ps_dput hu (pe_dget hu (pv 0) pe_str (fun _ _ => rfl)) (pv 1) (pe_tup (pa_cons (pv 2) (pa_cons (pe_dget hu (pv 0) pe_str (fun _ _ => rfl)) (pa_cons (pe_cmp (pc_notN (pv 4))) pa_nil)))) rfl)))))
        pss_nil)
      (pss_one (ps_ret (pe_slice sl_tup (pe_dget hu (pe_dget hu (pv 0) pe_str (fun _ _ => rfl)) (pv 1) (fun _ _ => rfl)) (po_some pe_int) po_none)))), ?_⟩
    obtain ⟨kh, hdh, hkl, hk, hf⟩ := S.hands
    have q := hf hand
    refine ⟨_, rfl, s, _, rfl, dgS S.dc o_hands, h, rfl, .inl ⟨kh, .inl hdh⟩, _, rfl, sz 1 (by decide), fun u nu => ?_⟩
    have ku : Kp No H (upd H u (.tup [.int 0])) := Kp.new nu
    have hdh2 := ku.t.dK hdh fun z => z
    refine ⟨_, DGet.k (k := Sum.inl hand) hdh2, ?_⟩
    have first : ∃ t1 rest, (valV kh (Sum.inl hand)).getD (.ref u) = .ref t1 ∧ upd H u (.tup [.int 0]) t1 = some (.tup (.int (lastL t.hands hand) :: rest)) := by
      unfold lastL
      cases e : t.hands hand with
      | none =>
        rw [e] at q
        have q : valV kh (.inl hand : Key) = none := q
        rw [q]
        exact ⟨u, [], rfl, upd_same⟩
      | some y =>
        obtain ⟨x1, num1, b1⟩ := y
        rw [e] at q
        obtain ⟨t1, h1, h2⟩ := q
        rw [h1]
        exact ⟨t1, [.int num1, .bl b1], rfl, ku.t.tup h2⟩
    obtain ⟨t1, rest, e1, ht1⟩ := first
    refine ⟨t1, _, 0, .int (lastL t.hands hand), e1, rfl, SqT.of ht1, atI_nat (j := 0) rfl, _, rfl, rfl, _, rfl, ?_⟩
    -- the last row: what is told
    have fin : ∀ (L : Hp) (r' : Addr) (t' : TT) (n' : Nat) (o : Option V), (r' = r ∨ H r' = none) → Kp (fun b => b = s ∨ b = h) H L → StL L s r' h t' n' → n' ≤ n + ds.length + 1 → t' = dl1 t ⟨hand, x, ds⟩ → tRet (tSl (rSlT K) (tDGet (tDGet (tVar 0) (tC (.str "hands"))) (tVar 1)) (tPart (tC (.int 1))) tNoPart) { nx := fun _ G => Q .non G, rt := Q } [some (.ref s), some (.int hand), some (.int x), some v, o] L := fun L r' t' n' o hr' kL SL hle et => by
      obtain ⟨num, b, hh⟩ := dl1_hand t ⟨hand, x, ds⟩ hx1
      have hh : (dl1 t ⟨hand, x, ds⟩).hands hand = some (x, num, b) := hh
      subst et
      obtain ⟨kvs, hdk, _, _, hv⟩ := SL.hands
      have q := hv hand
      rw [hh] at q
      obtain ⟨u4, q1, q2⟩ := q
      have dg : DGet L h (.int hand) (some (.ref u4)) := by
        have := DGet.k (k := Sum.inl hand) hdk
        rw [q1] at this
        exact this
      refine ⟨_, rfl, s, _, rfl, dgS SL.dc o_hands, _, rfl, h, _, rfl, dg, _, rfl, u4, _, rfl, SqT.of q2, (fun z => absurd z.1 (by show ¬ HT.sIx 3 0 (some 1) = 0; decide)), fun p np => ?_⟩
      have kp : Kp No L (upd L p (.tup [.int num, .bl b])) := Kp.new np
      refine k _ r' p hr' (kL.trans (F' := No) kp fun _ z => False.elim z) ((SL.no kp).le hle) ?_
      have : toldOf (dl1 t ⟨hand, x, ds⟩) hand = (num, b) := by unfold toldOf; rw [hh]
      rw [this]
      exact upd_same
    refine ite2 (fun z => ?_) (fun z => ?_)
    rotate_left
    · have heq : x = lastL t.hands hand := by
        have : lastL t.hands hand = x := by simpa using z
        exact this.symm
      have ed : dl1 t ⟨hand, x, ds⟩ = t := if_pos heq
      exact fin _ r t n none (.inl rfl) ((ku.sub fun _ z => False.elim z)) (S.no ku) (by omega) ed.symm
    have hne : ¬ x = lastL t.hands hand := fun y => by
      rw [y] at z
      simp at z
    have ed : dl1 t ⟨hand, x, ds⟩ = t.next (.deal hand x ds) := if_neg hne
    refine ⟨fun σ G => ∃ o r', σ = [some (.ref s), some (.int hand), some (.int x), some v, some (oR o)] ∧ Kp No H G ∧ (r' = r ∨ H r' = none) ∧ RwAt G r' (rowsBe t ds) (n + ds.length) ∧ RkAt G r' ∧ (o = none → r' = r) ∧ (∀ b, o = some b → r' = b) ∧ (!decide (oR o = V.non)) = (steps t.mom t.rows ds).isSome, ?_, ?_⟩
    · refine ⟨_, rfl, _, rfl, s, r, h, v, t, n, ds, rfl, S.no ku, hds.kt ku.t, hdok, by omega, fun G k2 => ⟨fun q => ?_, fun f b q nb R RK => ?_⟩⟩
      · refine ⟨none, r, rfl, ku.trans k2 fun _ z => False.elim z, .inl rfl, ?_, S.rk.kt (ku.trans k2 fun _ z => False.elim z).t (fun z => z), fun _ => rfl, (fun b z => by cases z), by rw [q]; rfl⟩
        unfold rowsBe; rw [q]
        exact (S.rows.kt (ku.trans k2 fun _ z => False.elim z).t fun z => z).le (by omega)
      · refine ⟨some b, b, rfl, ku.trans k2 fun _ z => False.elim z, .inr (ku.free nb fun z => False.elim z), ?_, RK, (fun z => by cases z), (fun b z => by cases z; rfl), by rw [q]; rfl⟩
        unfold rowsBe; rw [q]
        exact R
    · rintro σ G ⟨o, r', rfl, kG, hr', R, RK, ho1, ho2, hso⟩
      have hs : G s = some (.dK (ofs r h t.mom t.num)) := kG.t.dK S.dc fun z => z
      have hh : G h = some (.dK kh) := kG.t.dK hdh fun z => z
      have Hd : HnAt G h t.hands n := S.hands.kt kG.t fun z => z
      have sr' : s ≠ r' := by
        rcases hr' with z | z
        · rw [z]; exact S.sr
        · exact ne_of_none S.dc z
      have rh' : r' ≠ h := by
        rcases hr' with z | z
        · rw [z]; exact S.rh
        · exact (ne_of_none hdh z).symm
      refine ⟨_, rfl, s, _, rfl, dgS hs o_number, _, _, rfl, rfl, _, rfl, s, _, rfl, DPut.k (k := Sum.inr "number") hs (szL (by show 4 ≤ 16000; decide)), ?_⟩
      rw [q_number]
      have k2 : Kp (fun b => b = s ∨ b = h) H (upd G s (.dK (ofs r h t.mom (t.num + 1)))) := (kG.sub fun _ z => False.elim z).andD hs (.inl rfl)
      refine ⟨fun σ J => σ = [some (.ref s), some (.int hand), some (.int x), some v, some (oR o)] ∧ J = upd G s (.dK (ofs r' h t.mom (t.num + 1))), ?_, ?_⟩
      · cases o with
        | none =>
          have e := ho1 rfl
          refine ⟨_, rfl, _, rfl, iteF ⟨rfl, ?_⟩⟩
          rw [e]
        | some b =>
          have e := ho2 b rfl
          refine ⟨_, rfl, _, rfl, iteT ⟨_, rfl, _, rfl, s, _, rfl, DPut.k (k := Sum.inr "rows") upd_same (szL (by show 4 ≤ 16000; decide)), ?_⟩⟩
          refine ⟨rfl, ?_⟩
          show upd (upd G s (.dK (ofs r h t.mom (t.num + 1)))) s (.dK (ofs b h t.mom (t.num + 1))) = _
          rw [upd_upd, e]
      · rintro σ J ⟨rfl, rfl⟩
        have k3 : Kp (fun b => b = s ∨ b = h) H (upd G s (.dK (ofs r' h t.mom (t.num + 1)))) := (kG.sub fun _ z => False.elim z).andD hs (.inl rfl)
        have ks : Kp (fun b => b = s) G (upd G s (.dK (ofs r' h t.mom (t.num + 1)))) := Kp.updD hs rfl
        have hJs : upd G s (.dK (ofs r' h t.mom (t.num + 1))) s = some (.dK (ofs r' h t.mom (t.num + 1))) := upd_same
        generalize upd G s (.dK (ofs r' h t.mom (t.num + 1))) = J at k3 ks hJs ⊢
        have hJh : J h = some (.dK kh) := ks.t.dK hh S.sh.symm
        have HdJ : HnAt J h t.hands n := Hd.kt ks.t S.sh.symm
        have RJ : RwAt J r' (rowsBe t ds) (n + ds.length) := R.kt ks.t sr'.symm
        refine ⟨_, rfl, _, rfl, s, _, rfl, dgS hJs o_number, _, rfl, sz 3 (by decide), fun q nq => ?_⟩
        have kq : Kp No J (upd J q (.tup [.int x, .int (t.num + 1), .bl (!decide (oR o = V.non))])) := Kp.new nq
        have h2 := kq.t.dK hJh fun z => z
        have s2 := kq.t.dK hJs fun z => z
        refine ⟨_, rfl, s, _, rfl, dgS s2 o_hands, _, rfl, h, _, rfl, DPut.k (k := Sum.inl hand) h2 (szL (by omega)), ?_⟩
        have Hd3 := (HdJ.kt kq.t fun z => z).put (j := hand) h2 g0 g3 upd_same
        have k4 : Kp (fun b => b = h) J _ := (kq.sub (F' := fun b => b = h) fun _ z => False.elim z).andD (o' := .dK (putK kh (Sum.inl hand) (.ref q))) h2 rfl
        generalize hL : upd (upd J q (.tup [.int x, .int (t.num + 1), .bl (!decide (oR o = V.non))])) h (.dK (putK kh (Sum.inl hand) (.ref q))) = L at Hd3 k4 ⊢
        have L1 : L s = some (.dK (ofs r' h t.mom (t.num + 1))) := k4.t.dK hJs S.sh
        have L2 : L h = some (.dK (putK kh (Sum.inl hand) (.ref q))) := by rw [← hL, upd_same]
        have nqh : q ≠ h := (ne_of_none hJh nq).symm
        have L3 : L q = some (.tup [.int x, .int (t.num + 1), .bl (!decide (oR o = V.non))]) := by rw [← hL, upd_ne nqh, upd_same]
        have L4 := RJ.kt k4.t rh'
        have k5 : Kp (fun b => b = s ∨ b = h) H L := k3.trans k4 fun b z => .inl (.inr z)
        have eb : (!decide (oR o = V.non)) = (steps t.mom t.rows ds).isSome := hso
        rw [eb] at Hd3
        exact fin L r' _ _ _ hr' k5 ⟨L1, L4.le (by omega), Hd3.le (by omega), sr', S.sh, rh', (RK.kt ks.t sr'.symm).kt k4.t rh'⟩ (Nat.le_refl _) ed.symm
end
end S02

set_option Elab.async false
set_option linter.all false
set_option maxRecDepth 100000
set_option maxHeartbeats 2000000
namespace S02
open PySem PySem.Spec PyProof.Rows L2 K5 SupX GenX
theorem pickM {α : Type} (f : α → V) (l : List α) {r : Int} (h0 : 0 ≤ r) (h1 : r < l.length) : ∃ a, a ∈ l ∧ atI (l.map f) r = some (f a) := by
  have hl : r.toNat < l.length := by omega
  refine ⟨l[r.toNat], List.getElem_mem _, ?_⟩
  unfold atI
  rw [ixN_in h0 (by rw [List.length_map]; exact h1)]
  show (l.map f)[r.toNat]? = _
  rw [List.getElem?_map, List.getElem?_eq_getElem hl]
  rfl
theorem box_nf {H : Hp} {bx bi : Addr} (B : BoxAt H bx bi) {p : Addr → Prop} : ∀ b kvs, H b = some (.dK kvs) → p b → ¬ bF bx bi b := fun b kvs e _ z => by
  obtain ⟨ns, st, h1, h2, _⟩ := B.ex
  rcases z with z | z
  · rw [z, h1] at e; cases e
  · rw [z, h2] at e; cases e
theorem BoxAt.no {H G : Hp} {bx bi : Addr} (B : BoxAt H bx bi) (k : Kp No H G) : BoxAt G bx bi := B.kt k.t fun _ z => False.elim z
theorem BoxAt.new {H : Hp} {bx bi p : Addr} {o : HO} (B : BoxAt H bx bi) (n : H p = none) : BoxAt (upd H p o) bx bi := B.no (Kp.new n)
theorem new_nb {H : Hp} {bx bi p : Addr} (B : BoxAt H bx bi) (n : H p = none) : ¬ bF bx bi p := fun z => by
  obtain ⟨ns, st, h1, h2, _⟩ := B.ex
  rcases z with z | z
  · rw [z, h1] at n; cases n
  · rw [z, h2] at n; cases n
/-- a list that was made ahead of a draw is read behind it -/
theorem pickL {K : PySem.W.Frag} {H G : Hp} {bx bi p : Addr} {α : Type} (f : α → V) (l : List α) {r : Int} (B : BoxAt H bx bi) (n : H p = none) (k : Kp (bF bx bi) (upd H p (.lst (l.map f))) G) (h0 : 0 ≤ r) (h1 : r < l.length) :
    ∃ a, a ∈ l ∧ SqL K G p (l.map f) ∧ atI (l.map f) r = some (f a) := by
  obtain ⟨a, ha, e⟩ := pickM f l h0 h1
  exact ⟨a, ha, SqL.of (k.t.lst upd_same (new_nb B n)), e⟩
def RowsOk (f : Rw) : Prop := ∀ k w e, f k = some (w, e) → inB 0 999 w = true
theorem seen_ok {f : Rw} (h : RowsOk f) (m j : Int) : okW (seen m f j) = true := by
  unfold seen
  cases e : f j with
  | none => rfl
  | some p =>
    obtain ⟨wt, en⟩ := p
    show okW (if shB en m = true then some wt else none) = true
    split
    · exact h j wt en e
    · rfl
theorem rows_set {f : Rw} {j wt e : Int} (h : RowsOk f) (hw : inB 0 999 wt = true) : RowsOk (f.set j (some (wt, e))) := fun k w' e' q => by
  unfold Rw.set at q
  split at q
  · cases q
    exact hw
  · exact h k w' e' q
theorem rows_step {m : Int} {f g : Rw} {d : Dd} (h : RowsOk f) (hd : d.ok = true) (s : step m f d = some g) : RowsOk g := by
  cases d with
  | put j wt l =>
    cases s
    simp only [Dd.ok, Bool.and_eq_true] at hd
    exact rows_set h hd.2.1
  | drop j =>
    cases s
    intro k w' e' q
    unfold Rw.set at q
    split at q
    · cases q
    · exact h k w' e' q
  | add j x =>
    simp only [step] at s
    cases e : f j with
    | none => rw [e] at s; cases s
    | some p =>
      obtain ⟨wt, en⟩ := p
      rw [e] at s
      simp only at s
      split at s
      · rename_i q
        cases s
        exact rows_set h q.2
      · cases s
  | iff j x =>
    simp only [step] at s
    split at s
    · cases s
      exact h
    · cases s
theorem rows_steps {m : Int} : ∀ {ds : List Dd} {f g : Rw}, RowsOk f → (∀ d ∈ ds, d.ok = true) → steps m f ds = some g → RowsOk g
  | [], _, _, h, _, s => by
    cases s
    exact h
  | d :: ds, f, g, h, hd, s => by
    unfold steps at s
    cases q : step m f d with
    | none => rw [q] at s; cases s
    | some f2 =>
      rw [q] at s
      exact rows_steps (rows_step h (hd d List.mem_cons_self) q) (fun e he => hd e (List.mem_cons_of_mem _ he)) s
section
variable {P : Program} {w : World} {K : PySem.W.Frag} {mg : Str → Option Value} {base : Heap} {A : Ad}
theorem scdeed : FnScope ["_law_box", "_law_store_here", "_law_key", "_law_worth", "_law_way", "_law_life"] ["_law_box", "_law_store_here"] (defScope s_deed) := ⟨rfl, rfl, rfl, by decide +kernel, rfl, by decide +kernel, by decide +kernel⟩
def spDeedL : Sp := fun vs H Q _ => ∃ (bx bi s r h : Addr) (t : TT) (n : Nat), vs = [.ref bx, .ref s] ∧ BoxAt H bx bi ∧ StL H s r h t n ∧ RowsOk t.rows ∧
  ∀ G v d, BoxAt G bx bi → Kp (bF bx bi) H G → DdAt G v d → d.ok = true → Q v G
theorem ok_deed (T : Txt K mg A) : ∃ fd, FnOk P w K mg base CX0 2 (A.d 71) fd ["_law_box", "_law_store_here"] spDeedL ∧ Binds K fd ["_law_box", "_law_store_here"] [] := by
  obtain ⟨fd, F⟩ := T.deed.fn
  obtain ⟨fdT, Gtake, btake⟩ := ok_take (P := P) (w := w) (base := base) T
  obtain ⟨fdS, Gseen, bseen⟩ := ok_seen (P := P) (w := w) (base := base) T
  refine ⟨fd, F.ok scdeed (fun vs H Q E h => ?_) (fun cdv Ar outer s0 H vs Q E hr h => ?_), F.binds fun _ _ _ _ _ _ us hl => match us, hl with | [_, _], _ => rfl⟩
  · obtain ⟨bx, bi, s, r, h, t, n, rfl, _⟩ := h
    rfl
  · obtain ⟨bx, bi, s, r, h, t, n, rfl, B, S, ok, k⟩ := h
    have hu := hu_of hr
    refine ⟨_, (pss_cons (ps_set (i := 2) scdeed.nd rfl (Or.inl rfl) (pe_call Gtake (hr.mono (by first | decide | omega)) rfl T.take.at_ T.take.kp btake .nil pass0 (pa_cons (pv 0) (pa_cons (pe_ix ix_list (pe_lst (pa_cons pe_int (pa_cons pe_int (pa_cons pe_int pa_nil)))) (pe_call Gtake (hr.mono (by first | decide | omega)) rfl T.take.at_ T.take.kp btake .nil pass0 (pa_cons (pv 0) (pa_cons pe_int pa_nil))) (fun _ _ => rfl)) pa_nil))))
      (pss_cons (ps_set (i := 3) scdeed.nd rfl (Or.inl rfl) (pe_call Gseen (hr.mono (by first | decide | omega)) rfl T.seen.at_ T.seen.kp bseen .nil pass0 (pa_cons (pv 1) (pa_cons (pv 2) pa_nil))))
      (pss_cons (ps_set (i := 4) scdeed.nd rfl (Or.inl rfl) (pe_call Gtake (hr.mono (by first | decide | omega)) rfl T.take.at_ T.take.kp btake .nil pass0 (pa_cons (pv 0) (pa_cons pe_int pa_nil))))
      (pss_cons (ps_if (pt_cmpR op_lt (pv 4) pe_int (nomark _))
        (pss_cons (ps_set (i := 5) scdeed.nd rfl (Or.inl rfl) (pe_ix ix_list (pe_lst (pa_cons pe_int (pa_cons (pe_op op_add pe_int (pe_call Gtake (hr.mono (by first | decide | omega)) rfl T.take.at_ T.take.kp btake .nil pass0 (pa_cons (pv 0) (pa_cons pe_int pa_nil)))) (pa_cons (pe_op op_add pe_int (pe_call Gtake (hr.mono (by first | decide | omega)) rfl T.take.at_ T.take.kp btake .nil pass0 (pa_cons (pv 0) (pa_cons pe_int pa_nil)))) pa_nil)))) (pe_call Gtake (hr.mono (by first | decide | omega)) rfl T.take.at_ T.take.kp btake .nil pass0 (pa_cons (pv 0) (pa_cons pe_int pa_nil))) (fun _ _ => rfl)))
        (pss_one (ps_ret (pe_tup (pa_cons pe_str (pa_cons (pv 2) (pa_cons (pe_ix ix_list (pe_lst (pa_cons (pe_call Gtake (hr.mono (by first | decide | omega)) rfl T.take.at_ T.take.kp btake .nil pass0 (pa_cons (pv 0) (pa_cons pe_int pa_nil))) (pa_cons pe_int (pa_cons pe_int pa_nil)))) (pe_call Gtake (hr.mono (by first | decide | omega)) rfl T.take.at_ T.take.kp btake .nil pass0 (pa_cons (pv 0) (pa_cons pe_int pa_nil))) (fun _ _ => rfl)) (pa_cons (pv 5) pa_nil))))))))
        pss_nil)
      (pss_cons (ps_if (pt_cmpR op_eq (pv 4) pe_int (nomark _))
        (pss_one (ps_ret (pe_tup (pa_cons pe_str (pa_cons (pv 2) pa_nil)))))
        pss_nil)
      (pss_cons (ps_if (pt_cmpR op_lt (pv 4) pe_int (nomark _))
        (pss_one (ps_ret (pe_tup (pa_cons pe_str (pa_cons (pv 2) (pa_cons (pe_ix ix_list (pe_lst (pa_cons (pe_op op_sub (pe_call Gtake (hr.mono (by first | decide | omega)) rfl T.take.at_ T.take.kp btake .nil pass0 (pa_cons (pv 0) (pa_cons pe_int pa_nil))) pe_int) (pa_cons (pe_op op_sub (pe_call Gtake (hr.mono (by first | decide | omega)) rfl T.take.at_ T.take.kp btake .nil pass0 (pa_cons (pv 0) (pa_cons pe_int pa_nil))) pe_int) pa_nil))) (pe_call Gtake (hr.mono (by first | decide | omega)) rfl T.take.at_ T.take.kp btake .nil pass0 (pa_cons (pv 0) (pa_cons pe_int pa_nil))) (fun _ _ => rfl)) pa_nil))))))
        pss_nil)
      (pss_one (ps_ret (pe_tup (pa_cons pe_str (pa_cons (pv 2) (pa_cons (pe_ix ix_list (pe_lst (pa_cons (pv 3) (pa_cons (pv 3) (pa_cons (pv 3) (pa_cons pe_non (pa_cons (pe_call Gtake (hr.mono (by first | decide | omega)) rfl T.take.at_ T.take.kp btake .nil pass0 (pa_cons (pv 0) (pa_cons pe_int pa_nil))) pa_nil)))))) (pe_call Gtake (hr.mono (by first | decide | omega)) rfl T.take.at_ T.take.kp btake .nil pass0 (pa_cons (pv 0) (pa_cons pe_int pa_nil))) (fun _ _ => rfl)) pa_nil)))))))))))), ?_⟩
    have big : ∀ m : Int, 0 < m → m ≤ 2000 → m.natAbs < 2 ^ 90 := fun m h1 h2 => Nat.lt_of_le_of_lt (by omega : m.natAbs ≤ 2000) (by decide)
    -- the key
    refine ⟨_, rfl, sz 3 (by decide), fun p1 n1 => ⟨_, rfl, bx, bi, 3, rfl, B.new n1, by decide, by decide, fun r1 G1 a1 b1 B1 k1 => ?_⟩⟩
    obtain ⟨m1, hm1, e1⟩ := pickM V.int [2, 6, 32] a1 b1
    have g1 : 2 ≤ m1 ∧ m1 ≤ 32 := by
      simp only [List.mem_cons, List.not_mem_nil, or_false] at hm1
      omega
    have l1 : upd H p1 (.lst [.int 2, .int 6, .int 32]) p1 = some (.lst [.int 2, .int 6, .int 32]) := upd_same
    have nb1 : ¬ bF bx bi p1 := fun z => by
      obtain ⟨ns, st, h1, h2, _⟩ := B.ex
      rcases z with z | z
      · rw [z, h1] at n1; cases n1
      · rw [z, h2] at n1; cases n1
    refine ⟨p1, _, r1, .int m1, rfl, rfl, SqL.of (k1.t.lst l1 nb1), e1, bx, bi, m1, rfl, B1, by omega, big m1 (by omega) (by omega), fun key G2 a2 b2 B2 k2 => ?_⟩
    have K2 : Kp (bF bx bi) H G2 := ((Kp.new n1).trans k1 fun _ z => .inl z).trans k2 fun _ z => .inl z
    -- the worth
    refine ⟨_, rfl, _, rfl, s, r, h, key, t, n, rfl, S.kt K2.t (box_nf B), fun G3 k3 => ?_⟩
    have K3 : Kp (bF bx bi) H G3 := K2.trans k3 fun _ z => False.elim z
    have B3 := B2.no k3
    have okw := seen_ok ok t.mom key
    generalize seen t.mom t.rows key = x at okw ⊢
    -- the way
    refine ⟨_, rfl, bx, bi, 10, rfl, B3, by decide, by decide, fun way G4 a4 b4 B4 k4 => ?_⟩
    have K4 : Kp (bF bx bi) H G4 := K3.trans k4 fun _ z => .inl z
    refine ⟨_, rfl, _, _, rfl, rfl, _, rfl, ite2 (fun w5 => ?_) (fun w5 => ?_)⟩
    · -- a put
      refine ⟨_, rfl, bx, bi, 9, rfl, B4, by decide, by decide, fun x1 G5 a5 b5 B5 k5 => ⟨_, _, rfl, rfl, ?_⟩⟩
      refine ⟨_, rfl, bx, bi, 1000, rfl, B5, by decide, by decide, fun x2 G6 a6 b6 B6 k6 => ⟨_, _, rfl, rfl, sz 3 (by decide), fun p2 n2 => ?_⟩⟩
      refine ⟨_, rfl, bx, bi, 3, rfl, B6.new n2, by decide, by decide, fun r2 G7 a7 b7 B7 k7 => ?_⟩
      obtain ⟨l, hl, sl, el⟩ := pickL (K := K) V.int [0, 1 + x1, 1 + x2] B6 n2 k7 a7 b7
      have hl2 : 0 ≤ l ∧ l ≤ 1000 := by
        simp only [List.mem_cons, List.not_mem_nil, or_false] at hl
        omega
      have K7 : Kp (bF bx bi) H G7 := ((((K4.trans k5 fun _ z => .inl z).trans k6 fun _ z => .inl z).andN n2).trans k7 fun _ z => .inl z)
      refine ⟨p2, _, r2, .int l, rfl, rfl, sl, el, ?_⟩
      refine ⟨_, rfl, _, rfl, bx, bi, 1000, rfl, B7, by decide, by decide, fun x3 G8 a8 b8 B8 k8 => ⟨sz 3 (by decide), fun p3 n3 => ?_⟩⟩
      refine ⟨_, rfl, bx, bi, 3, rfl, B8.new n3, by decide, by decide, fun r3 G9 a9 b9 B9 k9 => ?_⟩
      obtain ⟨wt, hwt, sw, ew⟩ := pickL (K := K) V.int [x3, 999, 0] B8 n3 k9 a9 b9
      have hw2 : 0 ≤ wt ∧ wt ≤ 999 := by
        simp only [List.mem_cons, List.not_mem_nil, or_false] at hwt
        omega
      have K9 : Kp (bF bx bi) H G9 := ((K7.trans k8 fun _ z => .inl z).andN n3).trans k9 fun _ z => .inl z
      refine ⟨p3, _, r3, .int wt, rfl, rfl, sw, ew, _, rfl, sz 4 (by decide), fun u nu => ?_⟩
      exact k _ _ (.put key wt l) (B9.new nu) (K9.andN nu) ⟨u, rfl, upd_same⟩ (by simp only [Dd.ok, Bool.and_eq_true, inB_t]; omega)
    · refine ⟨_, rfl, rfl, _, rfl, ite2 (fun w6 => ?_) (fun w6 => ?_)⟩
      · -- a drop
        refine ⟨_, rfl, sz 2 (by decide), fun u nu => ?_⟩
        exact k _ _ (.drop key) (B4.new nu) (K4.andN nu) ⟨u, rfl, upd_same⟩ (by simp only [Dd.ok, inB_t]; omega)
      · refine ⟨_, rfl, _, _, rfl, rfl, _, rfl, ite2 (fun w8 => ?_) (fun w8 => ?_)⟩
        · -- an add
          refine ⟨_, rfl, _, rfl, bx, bi, 9, rfl, B4, by decide, by decide, fun x1 G5 a5 b5 B5 k5 => ⟨_, _, rfl, rfl, ?_⟩⟩
          refine ⟨_, rfl, bx, bi, 1999, rfl, B5, by decide, by decide, fun x2 G6 a6 b6 B6 k6 => ⟨_, _, rfl, rfl, sz 2 (by decide), fun p2 n2 => ?_⟩⟩
          refine ⟨_, rfl, bx, bi, 2, rfl, B6.new n2, by decide, by decide, fun r2 G7 a7 b7 B7 k7 => ?_⟩
          obtain ⟨l, hl, sl, el⟩ := pickL (K := K) V.int [x1 - 4, x2 - 999] B6 n2 k7 a7 b7
          have hl2 : -999 ≤ l ∧ l ≤ 999 := by
            simp only [List.mem_cons, List.not_mem_nil, or_false] at hl
            omega
          have K7 : Kp (bF bx bi) H G7 := ((((K4.trans k5 fun _ z => .inl z).trans k6 fun _ z => .inl z).andN n2).trans k7 fun _ z => .inl z)
          refine ⟨p2, _, r2, .int l, rfl, rfl, sl, el, sz 3 (by decide), fun u nu => ?_⟩
          exact k _ _ (.add key l) (B7.new nu) (K7.andN nu) ⟨u, rfl, upd_same⟩ (by simp only [Dd.ok, Bool.and_eq_true, inB_t]; omega)
        · -- an if
          refine ⟨_, rfl, _, rfl, _, rfl, _, rfl, _, rfl, bx, bi, 1000, rfl, B4, by decide, by decide, fun x1 G5 a5 b5 B5 k5 => ⟨sz 5 (by decide), fun p2 n2 => ?_⟩⟩
          refine ⟨_, rfl, bx, bi, 5, rfl, B5.new n2, by decide, by decide, fun r2 G7 a7 b7 B7 k7 => ?_⟩
          obtain ⟨y, hy, sy, ey⟩ := pickL (K := K) oV [x, x, x, none, some x1] B5 n2 k7 a7 b7
          have oky : okW y = true := by
            simp only [List.mem_cons, List.not_mem_nil, or_false] at hy
            rcases hy with rfl | rfl | rfl | rfl | rfl
            · exact okw
            · exact okw
            · exact okw
            · rfl
            · exact inB_t.mpr ⟨a5, by omega⟩
          have K7 : Kp (bF bx bi) H G7 := ((K4.trans k5 fun _ z => .inl z).andN n2).trans k7 fun _ z => .inl z
          refine ⟨p2, _, r2, oV y, rfl, rfl, sy, ey, sz 3 (by decide), fun u nu => ?_⟩
          refine k _ _ (.iff key y) (B7.new nu) (K7.andN nu) ⟨u, rfl, upd_same⟩ ?_
          have ik : inB 0 31 key = true := inB_t.mpr ⟨a2, by omega⟩
          cases y with
          | none => exact ik
          | some y =>
            show (inB 0 31 key && inB 0 999 y) = true
            rw [ik]
            exact oky
end
end S02

set_option Elab.async false
set_option linter.all false
set_option maxRecDepth 100000
set_option maxHeartbeats 2000000
namespace S02
open PySem PySem.Spec PyProof.Rows L2 K5 SupX GenX
section
variable {P : Program} {w : World} {K : PySem.W.Frag} {mg : Str → Option Value} {base : Heap} {A : Ad}
abbrev Nscdrawn : List Str := ["_law_box", "_law_store_here", "_law_turn"]
theorem scdrawn : FnScope Nscdrawn ["_law_box", "_law_store_here"] (defScope s_drawn) := ⟨rfl, rfl, rfl, by decide +kernel, rfl, by decide +kernel, by decide +kernel⟩
def spDrawn : Sp := fun vs H Q _ => ∃ (bx bi s r h : Addr) (t : TT) (n : Nat), vs = [.ref bx, .ref s] ∧ BoxAt H bx bi ∧ StL H s r h t n ∧ RowsOk t.rows ∧
  ∀ G v ds, BoxAt G bx bi → Kp (bF bx bi) H G → DsAt G v ds → (∀ d ∈ ds, d.ok = true) → 1 ≤ ds.length → ds.length ≤ 4 → Q v G
theorem ok_drawn (T : Txt K mg A) : ∃ fd, FnOk P w K mg base CX0 3 (A.d 72) fd ["_law_box", "_law_store_here"] spDrawn ∧ Binds K fd ["_law_box", "_law_store_here"] [] := by
  obtain ⟨fd, F⟩ := T.drawn.fn
  obtain ⟨fdT, Gtake, btake⟩ := ok_take (P := P) (w := w) (base := base) T
  obtain ⟨fdS, Gdeed, bdeed⟩ := ok_deed (P := P) (w := w) (base := base) T
  refine ⟨fd, F.ok scdrawn (fun vs H Q E h => ?_) (fun cdv Ar outer s0 H vs Q E hr h => ?_), F.binds fun _ _ _ _ _ _ us hl => match us, hl with | [_, _], _ => rfl⟩
  · obtain ⟨bx, bi, s, r, h, t, n, rfl, _⟩ := h
    rfl
  · obtain ⟨bx, bi, s, r, h, t, n, rfl, B, S, ok, k⟩ := h
    have hu := hu_of hr
    refine ⟨_, (pss_one (ps_ret (pe_callTy call_tuple_of (by rfl) T.tuple (by decide +kernel) (pa_cons (pe_lc (own := [("_law_turn", 2)]) (g := (gName 2)) (by rfl) scdrawn.nd (pi_range1 (by rfl) T.range (pa_cons (pe_op op_add pe_int (pe_call Gtake (hr.mono (by first | decide | omega)) rfl T.take.at_ T.take.kp btake .nil pass0 (pa_cons (pv 0) (pa_cons (pe_ix ix_list (pe_lst (pa_cons pe_int (pa_cons pe_int (pa_cons pe_int pa_nil)))) (pe_call Gtake (hr.mono (by first | decide | omega)) rfl T.take.at_ T.take.kp btake .nil pass0 (pa_cons (pv 0) (pa_cons pe_int pa_nil))) (fun _ _ => rfl)) pa_nil)))) pa_nil)) (blkOk_by (N := Nscdrawn) (sc := defScope s_drawn) (by decide +kernel)) (fun _ _ _ _ _ => pg_name (i := 2) scdrawn.nd rfl (Or.inl rfl)) (fun _ _ _ _ _ => pts_nil) (fun _ _ _ _ _ => (pe_call Gdeed (hr.mono (by first | decide | omega)) rfl T.deed.at_ T.deed.kp bdeed .nil pass0 (pa_cons (pv 0) (pa_cons (pv 1) pa_nil))))) pa_nil)))), ?_⟩
    refine ⟨_, rfl, sz 3 (by decide), fun p1 n1 => ⟨_, rfl, bx, bi, 3, rfl, B.new n1, by decide, by decide, fun r1 G1 a1 b1 B1 k1 => ?_⟩⟩
    obtain ⟨m1, hm1, s1, e1⟩ := pickL (K := K) V.int [1, 2, 4] B n1 k1 a1 b1
    have g1 : 1 ≤ m1 ∧ m1 ≤ 4 := by
      simp only [List.mem_cons, List.not_mem_nil, or_false] at hm1
      omega
    refine ⟨p1, _, r1, .int m1, rfl, rfl, s1, e1, bx, bi, m1, rfl, B1, by omega, Nat.lt_of_le_of_lt (by omega : m1.natAbs ≤ 2000) (by decide), fun c G2 a2 b2 B2 k2 => ?_⟩
    have K2 : Kp (bF bx bi) H G2 := ((Kp.new n1).trans k1 fun _ z => .inl z).trans k2 fun _ z => .inl z
    refine ⟨_, _, rfl, rfl, 1 + c, rfl, by omega, by omega, fun D nD => ?_⟩
    have KD : Kp (fun b => bF bx bi b ∨ b = D) H (upd G2 D (.lst [])) := (K2.sub fun _ z => .inl z).andN nD
    have nbD : ¬ bF bx bi D := new_nb B2 nD
    have HD : H D = none := K2.free nD fun z => absurd z nbD
    refine lc_range (lo := 0) (n := (1 + c).toNat) (fun i G => Kp (fun b => bF bx bi b ∨ b = D) H G ∧ BoxAt G bx bi ∧ ∃ acc ds, G D = some (.lst acc) ∧ Paired (DdAt G) acc ds ∧ ds.length = i ∧ ∀ d ∈ ds, d.ok = true) ⟨KD, B2.new nD, [], [], upd_same, .nil, rfl, fun _ z => by cases z⟩ ?_ ?_
    · rintro i G hi ⟨kp, BG, acc, ds, hD, pd, hl, hok⟩
      have nfS : ∀ b kvs, H b = some (.dK kvs) → (b = s ∨ b = r ∨ b = h) → ¬ (bF bx bi b ∨ b = D) := fun b kvs e pz z => by
        rcases z with z | z
        · exact box_nf B (p := fun b => b = s ∨ b = r ∨ b = h) b kvs e pz z
        · rw [z, HD] at e; cases e
      refine ⟨rfl, _, rfl, _, rfl, bx, bi, s, r, h, t, n, rfl, BG, S.kt kp.t nfS, ok, fun G3 v d B3 k3 hv hd => ?_⟩
      have hD3 : G3 D = some (.lst acc) := k3.t.lst hD nbD
      have k4 : Kp (fun b => b = D) G3 (upd G3 D (.lst (acc ++ [v]))) := Kp.updL hD3 rfl
      refine ⟨acc, hD3, szL (by rw [pd.length, hl]; omega), (kp.trans k3 fun _ z => .inl (.inl z)).trans k4 (fun b z => .inl (.inr z)), B3.kt k4.t (fun a z => by rw [z]; exact nbD), acc ++ [v], ds ++ [d], upd_same, ?_, by simp [hl], fun e he => ?_⟩
      · exact (pd.mono fun _ _ z => (z.kt k3.t).kt k4.t).snoc (hv.kt k4.t)
      · rcases List.mem_append.mp he with he | he
        · exact hok e he
        · rw [List.mem_singleton.mp he]; exact hd
    · rintro G ⟨kp, BG, acc, ds, hD, pd, hl, hok⟩
      refine ⟨D, acc, rfl, .inl ⟨SqL.of hD, fun q nq => ?_⟩⟩
      have kq : Kp No G (upd G q (.tup acc)) := Kp.new nq
      refine k _ _ ds (BG.no kq) ?_ ⟨q, acc, rfl, upd_same, pd.mono fun _ _ z => z.kt kq.t, by omega⟩ hok (by omega) (by omega)
      exact fun b o e n => (kp.andN nq) b o e fun m z => by
        rcases z with z | z
        · exact n m z
        · rw [z, HD] at e; cases e
end
end S02

set_option Elab.async false
set_option linter.all false
set_option maxRecDepth 100000
set_option maxHeartbeats 4000000
namespace S02
open PySem PySem.Spec PyProof.Rows L2 K5 SupX GenX
/-- what the law draws: events -/
inductive Vt where
  | deals (gs : List Gd)
  | tick (m : Int)
  | tidy (p : Int)
def VtAt (H : Hp) (v : V) : Vt → Prop
  | .deals gs => ∃ u gp xs, v = .ref u ∧ H u = some (.tup [.str "deals", .ref gp]) ∧ H gp = some (.lst xs) ∧ Paired (GdAt H) xs gs
  | .tick m => ∃ u, v = .ref u ∧ H u = some (.tup [.str "tick", .int m])
  | .tidy p => ∃ u, v = .ref u ∧ H u = some (.tup [.str "tidy", .int p])
/-- it may be told to a lead with this table -/
def Vt.ok (t : TT) : Vt → Prop
  | .deals gs => okG (lastL t.hands) gs ∧ gs.length ≤ 4 ∧ ∀ g ∈ gs, ∀ d ∈ g.ds, d.ok = true
  | .tick m => t.mom + 1 ≤ m ∧ m ≤ 1000000
  | .tidy p => 0 ≤ p ∧ p ≤ 8
def Vt.next (t : TT) : Vt → TT
  | .deals gs => dlT t gs
  | .tick m => t.next (.tick m)
  | .tidy _ => t
end S02

set_option Elab.async false
set_option linter.all false
set_option maxRecDepth 100000
set_option maxHeartbeats 4000000
namespace S02
open PySem PySem.Spec PyProof.Rows L2 K5 SupX GenX
theorem badFrom_none : ∀ {ds : List Dd} {i : Nat}, (∀ d ∈ ds, d.ok = true) → i + ds.length ≤ 4 → badFrom i ds = none
  | [], _, _, _ => rfl
  | d :: ds, i, h, hl => by
    rw [List.length_cons] at hl
    unfold badFrom
    rw [if_neg (fun z => by
      rcases z with z | z
      · omega
      · rw [h d List.mem_cons_self] at z; cases z)]
    exact badFrom_none (fun e he => h e (List.mem_cons_of_mem _ he)) (by omega)
theorem dealBad_none {ds : List Dd} (h : ∀ d ∈ ds, d.ok = true) (h1 : 1 ≤ ds.length) (h4 : ds.length ≤ 4) : dealBad ds = none := by
  unfold dealBad
  rw [if_neg (fun z => by rw [z] at h1; simp at h1)]
  exact badFrom_none h (by omega)
theorem okG_snoc : ∀ {gs : List Gd} {f : Int → Int} {g : Gd}, okG f gs → okG (gs.foldl (fun f g => setL f g.hd g.x) f) [g] → okG f (gs ++ [g])
  | [], _, _, _, h => h
  | a :: gs, f, g, ⟨h1, h2, h3, h4, h5, h6, h7, h8⟩, h => ⟨h1, h2, h3, h4, h5, h6, h7, okG_snoc h8 h⟩
theorem rowsBe_ok {t : TT} {ds : List Dd} (h : RowsOk t.rows) (hd : ∀ d ∈ ds, d.ok = true) : RowsOk (rowsBe t ds) := by
  unfold rowsBe
  cases e : steps t.mom t.rows ds with
  | none => exact h
  | some f => exact rows_steps h hd e
theorem dl1_rows {t : TT} {g : Gd} (h : RowsOk t.rows) (hd : ∀ d ∈ g.ds, d.ok = true) : RowsOk (dl1 t g).rows := by
  unfold dl1
  split
  · exact h
  · exact rowsBe_ok h hd
theorem first_last {H : Hp} {h u : Addr} {kh : List (Key × V)} {f : Hn} {hand : Int} (hv : HnV H kh f) (nu : H u = none) : ∃ t1 rest, (valV kh (Sum.inl hand : Key)).getD (.ref u) = .ref t1 ∧ upd H u (.tup [.int 0]) t1 = some (.tup (.int (lastL f hand) :: rest)) := by
  have q := hv hand
  have ku : Kp No H (upd H u (.tup [.int 0])) := Kp.new nu
  unfold lastL
  cases e : f hand with
  | none =>
    rw [e] at q
    have q : valV kh (.inl hand : Key) = none := q
    rw [q]
    exact ⟨u, [], rfl, upd_same⟩
  | some y =>
    obtain ⟨x1, num1, b1⟩ := y
    rw [e] at q
    obtain ⟨t1, h1, h2⟩ := q
    rw [h1]
    exact ⟨t1, [.int num1, .bl b1], rfl, ku.t.tup h2⟩
section
variable {P : Program} {w : World} {K : PySem.W.Frag} {mg : Str → Option Value} {base : Heap} {A : Ad} {tp : Nat → Addr} {nr pl B C fI : Addr}
theorem scgroup : FnScope ["_law_box", "_law_store_here", "_law_trial", "_law_found", "_law_turn", "_law_hand", "_law_last", "_law_letter", "_law_deal_here"] ["_law_box", "_law_store_here"] (defScope s_group) := ⟨rfl, rfl, rfl, by decide +kernel, rfl, by decide +kernel, by decide +kernel⟩
def spGroupW : Sp := fun vs H Q _ => ∃ (bx bi s r h : Addr) (t : TT) (n : Nat), vs = [.ref bx, .ref s] ∧ BoxAt H bx bi ∧ StL H s r h t n ∧ RowsOk t.rows ∧ n ≤ 13000 ∧ (∀ j, 0 ≤ lastL t.hands j) ∧
  ∀ G f xs gs, BoxAt G bx bi → Kp (bF bx bi) H G → H f = none → ¬ bF bx bi f → G f = some (.lst xs) → Paired (GdAt G) xs gs → gs.length ≤ 4 → okG (lastL t.hands) gs → (∀ g ∈ gs, ∀ d ∈ g.ds, d.ok = true) → Q (.ref f) G
theorem ok_group (T : Txt K mg A) : ∃ fd, FnOk P w K mg base CX0 4 (A.d 73) fd ["_law_box", "_law_store_here"] spGroupW ∧ Binds K fd ["_law_box", "_law_store_here"] [] := by
  obtain ⟨fd, F⟩ := T.group.fn
  obtain ⟨fdT, Gtake, btake⟩ := ok_take (P := P) (w := w) (base := base) T
  obtain ⟨fdA, Gagain, bagain⟩ := ok_again (P := P) (w := w) (base := base) T
  obtain ⟨fdR, Gdrawn, bdrawn⟩ := ok_drawn (P := P) (w := w) (base := base) T
  obtain ⟨fdD, Gdeal, bdeal⟩ := ok_deal (P := P) (w := w) (base := base) T
  refine ⟨fd, F.ok scgroup (fun vs H Q E h => ?_) (fun cdv Ar outer s0 H vs Q E hr h => ?_), F.binds fun _ _ _ _ _ _ us hl => match us, hl with | [_, _], _ => rfl⟩
  · obtain ⟨bx, bi, s, r, h, t, n, rfl, _⟩ := h
    rfl
  · obtain ⟨bx, bi, s, r, h, t, n, rfl, B, S, ok, hn, hlast, k⟩ := h
    have hu := hu_of hr
    refine ⟨_, (pss_cons (ps_set (i := 2) scgroup.nd rfl (Or.inl rfl) (pe_call Gagain (hr.mono (by first | decide | omega)) rfl T.again.at_ T.again.kp bagain .nil pass0 (pa_cons (pv 1) pa_nil)))
      (pss_cons (ps_set (i := 3) scgroup.nd rfl (Or.inl rfl) (pe_lst pa_nil))
      (pss_cons (ps_for PassesOwn.never rfl (pi_range1 (by rfl) T.range (pa_cons (pe_op op_add pe_int (pe_call Gtake (hr.mono (by first | decide | omega)) rfl T.take.at_ T.take.kp btake .nil pass0 (pa_cons (pv 0) (pa_cons (pe_ix ix_list (pe_lst (pa_cons pe_int (pa_cons pe_int pa_nil))) (pe_call Gtake (hr.mono (by first | decide | omega)) rfl T.take.at_ T.take.kp btake .nil pass0 (pa_cons (pv 0) (pa_cons pe_int pa_nil))) (fun _ _ => rfl)) pa_nil)))) pa_nil)) (pg_name (i := 4) scgroup.nd rfl (Or.inl rfl))
        (pss_cons (ps_set (i := 5) scgroup.nd rfl (Or.inl rfl) (pe_call Gtake (hr.mono (by first | decide | omega)) rfl T.take.at_ T.take.kp btake .nil pass0 (pa_cons (pv 0) (pa_cons pe_int pa_nil))))
        (pss_cons (ps_set (i := 6) scgroup.nd rfl (Or.inl rfl) (pe_ix ix_tup (pe_dget2 hu (pe_dget hu (pv 2) pe_str (fun _ _ => rfl)) (pv 5) (pe_tup (pa_cons pe_int pa_nil)) ⟨rfl, rfl, rfl, rfl⟩) pe_int (fun _ _ => rfl)))
        (C8.pss_cut (ps_set (i := 7) scgroup.nd rfl (Or.inl rfl) (pe_ifExp (PW.pt (pw_and (pt_cmpR op_gt (pv 6) pe_int (nomark _)) (pw_and1 (pt_cmpR op_eq (pe_call Gtake (hr.mono (by first | decide | omega)) rfl T.take.at_ T.take.kp btake .nil pass0 (pa_cons (pv 0) (pa_cons pe_int pa_nil))) pe_int (nomark _))))) (pv 6) (pe_op op_add (pv 6) pe_int)))
        (pss_cons (ps_set (i := 8) scgroup.nd rfl (Or.inl rfl) (pe_call Gdrawn (hr.mono (by first | decide | omega)) rfl T.drawn.at_ T.drawn.kp bdrawn .nil pass0 (pa_cons (pv 0) (pa_cons (pv 2) pa_nil))))
        (pss_cons (ps_expr (pe_call Gdeal (hr.mono (by first | decide | omega)) rfl T.deal.at_ T.deal.kp bdeal .nil pass0 (pa_cons (pv 2) (pa_cons (pv 5) (pa_cons (pv 7) (pa_cons (pv 8) pa_nil))))))
        (pss_one (ps_expr (pe_bm PySem.F.plainAttrs_list PySem.F.slot_list_append PySem.F.type_list_append mt_append (pv 3) (pa_cons (pe_tup (pa_cons (pv 5) (pa_cons (pv 7) (pa_cons (pv 8) pa_nil)))) pa_nil))))))))))
      (pss_one (ps_ret (pv 3)))))), ?_⟩
    refine ⟨_, rfl, s, r, h, t, n, rfl, S, fun G0 s' r' h' ns nr nh S' k0 => ⟨sz 0 (by decide), fun D nD => ?_⟩⟩
    have kD : Kp No G0 (upd G0 D (.lst [])) := Kp.new nD
    have eD : upd G0 D (.lst []) D = some (.lst []) := upd_same
    generalize upd G0 D (.lst []) = G1 at kD eD ⊢
    have k1 : Kp No H G1 := k0.trans kD fun _ z => False.elim z
    have nDH : H D = none := k0.free nD fun z => False.elim z
    have B1 := B.no k1
    have S1 := S'.no kD
    have nb : ∀ {c : Addr}, H c = none → ¬ bF bx bi c := fun n z => new_nb B n z
    refine ⟨_, rfl, sz 2 (by decide), fun p1 n1 => ⟨_, rfl, bx, bi, 2, rfl, B1.new n1, by decide, by decide, fun r1 G2 a1 b1 B2 k2 => ?_⟩⟩
    obtain ⟨m1, hm1, s1, e1⟩ := pickL (K := K) V.int [1, 4] B1 n1 k2 a1 b1
    have g1 : 1 ≤ m1 ∧ m1 ≤ 4 := by
      simp only [List.mem_cons, List.not_mem_nil, or_false] at hm1
      omega
    refine ⟨p1, _, r1, .int m1, rfl, rfl, s1, e1, bx, bi, m1, rfl, B2, by omega, Nat.lt_of_le_of_lt (by omega : m1.natAbs ≤ 2000) (by decide), fun c G3 a2 b2 B3 k3 => ⟨_, _, rfl, rfl, 1 + c, rfl, by omega, by omega, ?_⟩⟩
    have K3 : Kp (bF bx bi) G1 G3 := ((Kp.new n1).trans k2 fun _ z => .inl z).trans k3 fun _ z => .inl z
    have KH3 : Kp (bF bx bi) H G3 := (k1.sub fun _ z => False.elim z).trans K3 fun _ z => .inl z
    refine for_range (lo := 0) (n := (1 + c).toNat) (fun i σ J => ∃ o1 o2 o3 o4 o5 rr xs gs, σ = [some (.ref bx), some (.ref s), some (.ref s'), some (.ref D), o1, o2, o3, o4, o5] ∧ BoxAt J bx bi ∧ Kp (fun b => bF bx bi b ∨ b = s' ∨ b = h' ∨ b = D) H J ∧ H rr = none ∧ StL J s' rr h' (dlT t gs) (n + 5 * i) ∧ J D = some (.lst xs) ∧ Paired (GdAt J) xs gs ∧ gs.length = i ∧ okG (lastL t.hands) gs ∧ (∀ g ∈ gs, ∀ d ∈ g.ds, d.ok = true) ∧ RowsOk (dlT t gs).rows) ⟨_, _, _, _, _, r', [], [], rfl, B3, KH3.sub fun _ z => .inl z, nr, S1.kt K3.t (box_nf B1), K3.t.lst eD (nb nDH), .nil, rfl, trivial, (fun g z => nomatch z), ok⟩ ?_ ?_
    · rintro i σ J hi ⟨o1, o2, o3, o4, o5, rr, xs, gs, rfl, BJ, kJ, nrr, SJ, hD, pJ, hl, hok, hds, hrows⟩
      have hi4 : i < 4 := by have : ((i : Nat) : Int) < 1 + c := by omega
                             omega
      have nfB : ∀ b kvs, J b = some (.dK kvs) → (b = s' ∨ b = rr ∨ b = h') → ¬ bF bx bi b := fun b kvs e _ => box_nf BJ (p := fun _ => True) b kvs e trivial
      -- the hand
      refine ⟨_, rfl, bx, bi, 4, rfl, BJ, by decide, by decide, fun hand G4 a4 b4 B4 k4 => ?_⟩
      have S4 := SJ.kt k4.t nfB
      obtain ⟨kh, hdh, hkl, hk, hv⟩ := S4.hands
      refine ⟨_, rfl, s', _, rfl, dgS S4.dc o_hands, h', rfl, .inl ⟨kh, .inl hdh⟩, _, rfl, sz 1 (by decide), fun u nu => ?_⟩
      obtain ⟨t1, rest, et1, ht1⟩ := first_last (h := h') (hand := hand) hv nu
      have ku : Kp No G4 (upd G4 u (.tup [.int 0])) := Kp.new nu
      refine ⟨_, DGet.k (k := Sum.inl hand) (ku.t.dK hdh fun z => z), t1, _, 0, .int (lastL (dlT t gs).hands hand), et1, rfl, SqT.of ht1, atI_nat (j := 0) rfl, ?_⟩
      have B5 := B4.no ku
      have S5 := S4.no ku
      have K5 : Kp (bF bx bi) J (upd G4 u (.tup [.int 0])) := k4.trans ku fun _ z => False.elim z
      generalize upd G4 u (.tup [.int 0]) = G5 at ku B5 S5 K5 ⊢
      have hl0 : 0 ≤ lastL (dlT t gs).hands hand := by
        rw [dlT_last]
        have : ∀ (gs : List Gd) (f : Int → Int), (∀ j, 0 ≤ f j) → okG f gs → ∀ j, 0 ≤ gs.foldl (fun f g => setL f g.hd g.x) f j := by
          intro gs
          induction gs with
          | nil => intro f h _ j; exact h j
          | cons g gs ih =>
            intro f h hk j
            refine ih _ (fun i => ?_) hk.2.2.2.2.2.2.2 j
            unfold setL
            split
            · have := hk.2.2.1; omega
            · exact h i
        exact this gs _ hlast hok hand
      generalize hla : lastL (dlT t gs).hands hand = la at hl0 ⊢
      -- the letter
      refine ⟨fun σ I => ∃ x, σ = [some (.ref bx), some (.ref s), some (.ref s'), some (.ref D), some (.int (0 + (i : Nat))), some (.int hand), some (.int la), some (.int x), o5] ∧ 1 ≤ x ∧ la ≤ x ∧ x ≤ la + 1 ∧ BoxAt I bx bi ∧ Kp (bF bx bi) J I, ?_, ?_⟩
      · refine ⟨_, rfl, _, _, rfl, rfl, _, rfl, ite2 (fun z => ?_) (fun z => ?_)⟩
        · have z : 0 < la := by simpa using z
          refine ⟨_, rfl, bx, bi, 6, rfl, B5, by decide, by decide, fun r6 G6 a6 b6 B6 k6 => ⟨rfl, _, rfl, ite2 (fun y => ?_) (fun y => ?_)⟩⟩
          · exact ⟨_, rfl, la, rfl, by omega, Int.le_refl _, by omega, B6, K5.trans k6 fun _ z => .inl z⟩
          · exact ⟨_, rfl, _, _, rfl, rfl, la + 1, rfl, by omega, by omega, Int.le_refl _, B6, K5.trans k6 fun _ z => .inl z⟩
        · exact ⟨_, rfl, _, _, rfl, rfl, la + 1, rfl, by omega, by omega, Int.le_refl _, B5, K5⟩
      rintro σ G6 ⟨x, rfl, x1, x2, x3, B6, K6⟩
      have S6 := SJ.kt K6.t nfB
      -- the deal
      refine ⟨_, rfl, _, rfl, bx, bi, s', rr, h', _, _, rfl, B6, S6, hrows, fun G7 v ds B7 k7 hdv hdok d1 d4 => ?_⟩
      have K7 : Kp (bF bx bi) J G7 := K6.trans k7 fun _ z => .inl z
      have S7 := SJ.kt K7.t nfB
      refine ⟨_, rfl, _, rfl, _, rfl, _, rfl, s', rr, h', hand, x, v, _, _, ds, rfl, S7, hdv, hdok, by omega, a4, by omega, x1, fun G8 rr2 u2 hrr k8 S8 hu2 => ?_⟩
      have nD : ¬ (D = s' ∨ D = h') := by
        have h1 := K7.t.lst hD (nb nDH)
        obtain ⟨_, q2⟩ := S7.hands.dc
        rintro (z | z)
        · exact ne_of h1 S7.dc (by intro z; cases z) z
        · exact ne_of h1 q2 (by intro z; cases z) z
      have K8 : Kp (fun b => bF bx bi b ∨ b = s' ∨ b = h') J G8 := (K7.sub fun _ z => .inl z).trans k8 fun b z => .inl (.inr z)
      have hD8 : G8 D = some (.lst xs) := K8.t.lst hD fun z => z.elim (nb nDH) nD
      have B8 : BoxAt G8 bx bi := B7.kt k8.t fun b z y => by
        rcases z with z | z
        · exact nb ns (z ▸ y)
        · exact nb nh (z ▸ y)
      refine ⟨_, rfl, .inl ⟨rfl, _, SqL.of hD8⟩, _, rfl, _, rfl, _, rfl, sz 3 (by decide), fun u3 nu3 => ⟨D, xs, _, rfl, rfl, by rw [upd_ne (ne_of_none hD8 nu3)]; exact hD8, szL (by rw [pJ.length]; omega), ?_⟩⟩
      have k3' : Kp No G8 (upd G8 u3 (.tup [.int hand, .int x, v])) := Kp.new nu3
      have h3' : GdAt (upd G8 u3 (.tup [.int hand, .int x, v])) (.ref u3) ⟨hand, x, ds⟩ := ⟨u3, v, rfl, upd_same, (hdv.kt k8.t).kt k3'.t⟩
      have hD9 := k3'.t.lst hD8 fun z => z
      generalize upd G8 u3 (.tup [.int hand, .int x, v]) = G9 at k3' h3' hD9 ⊢
      have ka : Kp (fun b => b = D) G9 (upd G9 D (.lst (xs ++ [.ref u3]))) := Kp.updL hD9 rfl
      have kF : Kp (fun b => bF bx bi b ∨ b = s' ∨ b = h' ∨ b = D) J (upd G9 D (.lst (xs ++ [.ref u3]))) := ((K8.sub (F' := fun b => bF bx bi b ∨ b = s' ∨ b = h' ∨ b = D) fun b z => z.imp id fun y => y.imp id .inl).trans k3' fun _ z => False.elim z).trans ka fun b z => .inl (.inr (.inr (.inr z)))
      have kHF := kJ.trans kF fun b z => .inl z
      have et : dlT t (gs ++ [⟨hand, x, ds⟩]) = dl1 (dlT t gs) ⟨hand, x, ds⟩ := dlT_snoc ..
      have okn : okG (lastL t.hands) (gs ++ [⟨hand, x, ds⟩]) := by
        refine okG_snoc hok ?_
        rw [← dlT_last]
        rw [← hla] at x2 x3
        exact ⟨a4, (by show hand ≤ 3; omega), x1, x2, x3, dealBad_none hdok d1 d4, d4, trivial⟩
      refine ⟨_, _, _, _, _, rr2, xs ++ [.ref u3], gs ++ [⟨hand, x, ds⟩], rfl, (B8.no k3').kt ka.t (fun b z => by rw [z]; exact nb nDH), kHF, ?_, ?_, upd_same, (pJ.mono fun _ _ z => z.kt kF.t).snoc (h3'.kt ka.t), by rw [List.length_append, hl]; rfl, okn, ?_, ?_⟩
      · rcases hrr with z | z
        · rw [z]; exact nrr
        · refine (kJ.trans K7 fun b z => .inl (.inl z)).free z fun y => ?_
          obtain ⟨ns7, st7, q1, q2, _⟩ := B7.ex
          obtain ⟨_, q3⟩ := S7.hands.dc
          rcases y with (y | y) | y | y | y
          · rw [y, q1] at z; cases z
          · rw [y, q2] at z; cases z
          · rw [y, S7.dc] at z; cases z
          · rw [y, q3] at z; cases z
          · rw [y, K7.t.lst hD (nb nDH)] at z; cases z
      · rw [et]
        refine ((S8.no k3').kt ka.t fun b kvs e _ z => ?_).le (by omega)
        rw [show b = D from z, hD9] at e; cases e
      · intro g hg d hd
        rcases List.mem_append.mp hg with z | z
        · exact hds g z d hd
        · rw [List.mem_singleton.mp z] at hd
          exact hdok d hd
      · rw [et]
        exact dl1_rows hrows hdok
    · rintro σ J ⟨o1, o2, o3, o4, o5, rr, xs, gs, rfl, BJ, kJ, nrr, SJ, hD, pJ, hl, hok, hds, hrows⟩
      refine ⟨_, rfl, k J D xs gs BJ (fun b o e n => kJ b o e fun mu z => ?_) nDH (nb nDH) hD pJ (by omega) hok hds⟩
      rcases z with z | z | z | z
      · exact n mu z
      · rw [z, ns] at e; cases e
      · rw [z, nh] at e; cases e
      · rw [z, nDH] at e; cases e
end
end S02

set_option Elab.async false
set_option linter.all false
set_option maxRecDepth 100000
set_option maxHeartbeats 4000000
namespace S02
open PySem PySem.Spec PyProof.Rows L2 K5 SupX GenX
section
variable {P : Program} {w : World} {K : PySem.W.Frag} {mg : Str → Option Value} {base : Heap} {A : Ad} {tp : Nat → Addr} {nr pl B C fI : Addr}
/-! ### event -/
theorem scevent : FnScope ["_law_box", "_law_store_here", "_law_way", "_law_goal", "_law_far"] ["_law_box", "_law_store_here"] (defScope s_event) := ⟨rfl, rfl, rfl, by decide +kernel, rfl, by decide +kernel, by decide +kernel⟩
def spEvent : Sp := fun vs H Q _ => ∃ (bx bi s r h : Addr) (t : TT) (n : Nat), vs = [.ref bx, .ref s] ∧ BoxAt H bx bi ∧ StL H s r h t n ∧ RowsOk t.rows ∧ n ≤ 13000 ∧ (∀ j, 0 ≤ lastL t.hands j) ∧ 0 ≤ t.mom ∧ t.mom ≤ 1000000 ∧
  ∀ G v e, BoxAt G bx bi → Kp (bF bx bi) H G → VtAt G v e → e.ok t → (∀ gs u gp, e = .deals gs → v = .ref u → G u = some (.tup [.str "deals", .ref gp]) → H gp = none ∧ ¬ bF bx bi gp) → Q v G
theorem ok_event (T : Txt K mg A) : ∃ fd, FnOk P w K mg base CX0 5 (A.d 74) fd ["_law_box", "_law_store_here"] spEvent ∧ Binds K fd ["_law_box", "_law_store_here"] [] := by
  obtain ⟨fd, F⟩ := T.event.fn
  obtain ⟨fdT, Gtake, btake⟩ := ok_take (P := P) (w := w) (base := base) T
  obtain ⟨fdG, Ggroup, bgroup⟩ := ok_group (P := P) (w := w) (base := base) T
  refine ⟨fd, F.ok scevent (fun vs H Q E h => ?_) (fun cdv Ar outer s0 H vs Q E hr h => ?_), F.binds fun _ _ _ _ _ _ us hl => match us, hl with | [_, _], _ => rfl⟩
  · obtain ⟨bx, bi, s, r, h, t, n, rfl, _⟩ := h
    rfl
  · obtain ⟨bx, bi, s, r, h, t, n, rfl, B, S, ok, hn, hlast, m0, m1, k⟩ := h
    have hu := hu_of hr
    refine ⟨_, (pss_cons (ps_set (i := 2) scevent.nd rfl (Or.inl rfl) (pe_call Gtake (hr.mono (by first | decide | omega)) rfl T.take.at_ T.take.kp btake .nil pass0 (pa_cons (pv 0) (pa_cons pe_int pa_nil))))
      (pss_cons (ps_if (PW.pt (pw_or (pt_cmpR op_eq (pv 2) pe_int (nomark _)) (pw_or1 (PW.pt (pw_and (pt_cmpR op_eq (pv 2) pe_int (nomark _)) (pw_and1 (pt_cmpR op_eq (pe_dget hu (pv 1) pe_str (fun _ _ => rfl)) (pe_op op_pow pe_int pe_int) (nomark _))))))))
        (pss_one (ps_ret (pe_tup (pa_cons pe_str (pa_cons (pe_call Gtake (hr.mono (by first | decide | omega)) rfl T.take.at_ T.take.kp btake .nil pass0 (pa_cons (pv 0) (pa_cons pe_int pa_nil))) pa_nil)))))
        pss_nil)
      (pss_cons (ps_if (pt_cmpR op_eq (pv 2) pe_int (nomark _))
        (pss_cons (ps_set (i := 3) scevent.nd rfl (Or.inl rfl) (pe_op op_add (pe_op op_add (pe_dget hu (pv 1) pe_str (fun _ _ => rfl)) pe_int) (pe_call Gtake (hr.mono (by first | decide | omega)) rfl T.take.at_ T.take.kp btake .nil pass0 (pa_cons (pv 0) (pa_cons (pe_ix ix_list (pe_lst (pa_cons pe_int (pa_cons pe_int (pa_cons pe_int pa_nil)))) (pe_call Gtake (hr.mono (by first | decide | omega)) rfl T.take.at_ T.take.kp btake .nil pass0 (pa_cons (pv 0) (pa_cons pe_int pa_nil))) (fun _ _ => rfl)) pa_nil)))))
        (pss_cons (ps_set (i := 4) scevent.nd rfl (Or.inl rfl) (pe_ix ix_list (pe_lst (pa_cons (pv 3) (pa_cons (pv 3) (pa_cons (pv 3) (pa_cons (pe_op op_sub (pe_op op_pow pe_int pe_int) (pe_call Gtake (hr.mono (by first | decide | omega)) rfl T.take.at_ T.take.kp btake .nil pass0 (pa_cons (pv 0) (pa_cons pe_int pa_nil)))) pa_nil))))) (pe_op op_fdiv (pe_call Gtake (hr.mono (by first | decide | omega)) rfl T.take.at_ T.take.kp btake .nil pass0 (pa_cons (pv 0) (pa_cons pe_int pa_nil))) pe_int) (fun _ _ => rfl)))
        (pss_one (ps_ret (pe_tup (pa_cons pe_str (pa_cons (pe_callB (call_min2 rfl) (by rfl) T.min (by decide +kernel) (pa_cons (pe_op op_pow pe_int pe_int) (pa_cons (pe_callB (call_max2 rfl) (by rfl) T.max (by decide +kernel) (pa_cons (pv 3) (pa_cons (pv 4) pa_nil))) pa_nil))) pa_nil)))))))
        pss_nil)
      (pss_one (ps_ret (pe_tup (pa_cons pe_str (pa_cons (pe_call Ggroup (hr.mono (by first | decide | omega)) rfl T.group.at_ T.group.kp bgroup .nil pass0 (pa_cons (pv 0) (pa_cons (pv 1) pa_nil))) pa_nil)))))))), ?_⟩
    have big : ∀ m : Int, 0 < m → m ≤ 200000 → m.natAbs < 2 ^ 90 := fun m h1 h2 => Nat.lt_of_le_of_lt (by omega : m.natAbs ≤ 200000) (by decide)
    refine ⟨_, rfl, bx, bi, 6, rfl, B, by decide, by decide, fun way G1 a1 b1 B1 k1 => ?_⟩
    have S1 := S.kt k1.t (box_nf B)
    have nb : ∀ {c : Addr}, H c = none → ¬ bF bx bi c := fun n z => new_nb B n z
    have tidy_ : ∀ σ : L2.St, σ = [some (.ref bx), some (.ref s), some (.int way), none, none] → tRet (tTup (tCons (tC (.str "tidy")) (tCons (tCall spTake [] E0 (tCons (tVar 0) (tCons (tC (.int 9)) tNil))) tNil))) { nx := fun _ G => Q .non G, rt := Q } σ G1 := fun σ e => by
      subst e
      refine ⟨_, rfl, bx, bi, 9, rfl, B1, by decide, by decide, fun p G2 a2 b2 B2 k2 => ⟨sz 2 (by decide), fun u nu => ?_⟩⟩
      exact k _ _ (.tidy p) (B2.new nu) ((k1.trans k2 fun _ z => .inl z).andN nu) ⟨u, rfl, upd_same⟩ ⟨a2, by omega⟩ (fun _ _ _ z => by cases z)
    refine ⟨_, rfl, rfl, _, rfl, ite2 (fun w5 => iteT (tidy_ _ rfl)) (fun w5 => ?_)⟩
    refine ⟨_, rfl, rfl, _, rfl, ite2 (fun w4 => ?_) (fun w4 => ?_)⟩
    · refine ⟨_, rfl, s, _, rfl, dgS S1.dc o_moment, _, _, rfl, rfl, ⟨by decide, by decide, by decide⟩, rfl, _, rfl, ite2 (fun hm => tidy_ _ rfl) (fun hm => ?_)⟩
      have hm : t.mom < 1000000 := by
        have : ¬ t.mom = 10 ^ (6 : Int).toNat := fun z => by rw [z] at hm; simp at hm
        have e : (10 : Int) ^ (6 : Int).toNat = 1000000 := by decide
        rw [e] at this
        omega
      refine ⟨_, rfl, rfl, _, rfl, ite2 (fun _ => ?_) (fun w4' => absurd w4 w4')⟩
      -- the goal
      refine ⟨_, rfl, s, _, rfl, dgS S1.dc o_moment, _, _, rfl, rfl, _, rfl, sz 3 (by decide), fun p2 n2 => ⟨_, rfl, bx, bi, 3, rfl, B1.new n2, by decide, by decide, fun r2 G2 a2 b2 B2 k2 => ?_⟩⟩
      obtain ⟨m2, hm2, s2, e2⟩ := pickL (K := K) V.int [3, 30, 2000] B1 n2 k2 a2 b2
      have g2 : 3 ≤ m2 ∧ m2 ≤ 2000 := by
        simp only [List.mem_cons, List.not_mem_nil, or_false] at hm2
        omega
      refine ⟨p2, _, r2, .int m2, rfl, rfl, s2, e2, bx, bi, m2, rfl, B2, by omega, big m2 (by omega) (by omega), fun g G3 a3 b3 B3 k3 => ⟨_, _, rfl, rfl, ?_⟩⟩
      have K3 : Kp (bF bx bi) H G3 := ((k1.andN n2).trans k2 fun _ z => .inl z).trans k3 fun _ z => .inl z
      -- far
      refine ⟨_, rfl, _, rfl, _, rfl, _, _, rfl, rfl, ⟨by decide, by decide, by decide⟩, _, rfl, bx, bi, 3000, rfl, B3, by decide, by decide, fun x G4 a4 b4 B4 k4 => ⟨_, _, rfl, rfl, sz 4 (by decide), fun p5 n5 => ?_⟩⟩
      refine ⟨_, rfl, bx, bi, 12, rfl, B4.new n5, by decide, by decide, fun y G5 a5 b5 B5 k5 => ?_⟩
      obtain ⟨far, hfar, s5, e5⟩ := pickL (K := K) V.int [t.mom + 1 + g, t.mom + 1 + g, t.mom + 1 + g, 10 ^ (6 : Int).toNat - x] B4 n5 k5 (r := y / 3) (by omega) (by show y / 3 < ((4 : Nat) : Int); omega)
      refine ⟨_, _, rfl, rfl, ⟨by decide, by decide⟩, p5, _, _, .int far, rfl, rfl, s5, e5, ?_⟩
      refine ⟨_, _, rfl, rfl, ⟨by decide, by decide, by decide⟩, _, rfl, _, rfl, _, _, rfl, _, _, rfl, sz 2 (by decide), fun u nu => ?_⟩
      have K5 : Kp (bF bx bi) H G5 := (((K3.trans k4 fun _ z => .inl z).andN n5).trans k5 fun _ z => .inl z)
      have e6 : (10 : Int) ^ (6 : Int).toNat = 1000000 := by decide
      refine k _ _ (.tick _) (B5.new nu) (K5.andN nu) ⟨u, rfl, upd_same⟩ ⟨?_, ?_⟩ (fun _ _ _ z => by cases z)
      · rw [e6]
        split <;> split <;> omega
      · rw [e6]
        split <;> split <;> omega
    · refine iteF ⟨_, rfl, rfl, _, rfl, ite2 (fun w4' => absurd w4' w4) (fun _ => ?_)⟩
      refine ⟨_, rfl, _, rfl, bx, bi, s, r, h, t, n, rfl, B1, S1, ok, hn, hlast, fun G2 f xs gs B2 k2 nf nbf hf pf l4 okg hds => ⟨sz 2 (by decide), fun u nu => ?_⟩⟩
      have ku : Kp No G2 (upd G2 u (.tup [.str "deals", .ref f])) := Kp.new nu
      refine k _ _ (.deals gs) (B2.new nu) ((k1.trans k2 fun _ z => .inl z).andN nu) ⟨u, f, xs, rfl, upd_same, ku.t.lst hf (fun z => z), pf.mono fun _ _ z => z.kt ku.t⟩ ⟨okg, l4, hds⟩ fun gs' u' gp' e1 e2 e3 => ?_
      cases e2
      rw [upd_same] at e3
      cases e3
      exact ⟨k1.free nf fun z => absurd z nbf, nbf⟩
end
end S02

set_option Elab.async false
set_option linter.all false
set_option maxRecDepth 100000
set_option maxHeartbeats 4000000
namespace S02
open PySem PySem.Spec PyProof.Rows L2 K5 SupX GenX

/-- the tables, the last one being t's -/
structure LsAt (H : Hp) (f s r h : Addr) (t : TT) (n : Nat) : Prop where
  ex : ∃ xs : List V, H f = some (.lst (xs ++ [.ref s])) ∧ (xs.length : Int) = t.num
  st : StL H s r h t n
def ToAt (H : Hp) (tv : V) (t : TT) : Vt → Prop
  | .deals gs => ∃ to vs, tv = .ref to ∧ H to = some (.lst vs) ∧ Paired (TpAt H) vs (tolds t gs)
  | .tick _ => tv = .int (t.num + 1)
  | .tidy _ => tv = .non
section
variable {P : Program} {w : World} {K : PySem.W.Frag} {mg : Str → Option Value} {base : Heap} {A : Ad} {tp : Nat → Addr} {nr pl B C fI : Addr}
theorem scbehind : FnScope ["_law_stores", "_law_event_here", "_law_store_here", "_law_found", "_law_told", "_law_hand", "_law_letter", "_law_deal_here"] ["_law_stores", "_law_event_here"] (defScope s_behind) := ⟨rfl, rfl, rfl, by decide +kernel, rfl, by decide +kernel, by decide +kernel⟩
def spBehind : Sp := fun vs H Q _ => ∃ (S s r h : Addr) (v : V) (t : TT) (n : Nat) (e : Vt), vs = [.ref S, v] ∧ LsAt H S s r h t n ∧ VtAt H v e ∧ e.ok t ∧ n ≤ 13000 ∧ 0 ≤ t.num ∧ t.num ≤ 1000 ∧
  ∀ G b f s' r' h' tv, Kp No H G → H f = none → G b = some (.tup [tv, .ref f]) → LsAt G f s' r' h' (e.next t) (n + 25) → ((s' = s ∧ r' = r ∧ h' = h) ∨ (H s' = none ∧ H r' = none ∧ H h' = none)) → ToAt G tv t e → (∀ to, tv = .ref to → H to = none ∧ to ≠ f) → Q (.ref b) G
theorem ok_behind (T : Txt K mg A) : ∃ fd, FnOk P w K mg base CX0 4 (A.d 75) fd ["_law_stores", "_law_event_here"] spBehind ∧ Binds K fd ["_law_stores", "_law_event_here"] [] := by
  obtain ⟨fd, F⟩ := T.behind.fn
  obtain ⟨fdA, Gagain, bagain⟩ := ok_again (P := P) (w := w) (base := base) T
  obtain ⟨fdD, Gdeal, bdeal⟩ := ok_deal (P := P) (w := w) (base := base) T
  refine ⟨fd, F.ok scbehind (fun vs H Q E h => ?_) (fun cdv Ar outer s0 H vs Q E hr h => ?_), F.binds fun _ _ _ _ _ _ us hl => match us, hl with | [_, _], _ => rfl⟩
  · obtain ⟨S, s, r, h, v, t, n, e, rfl, _⟩ := h
    rfl
  · obtain ⟨S, s, r, h, v, t, n, e, rfl, LS, hv, hok, hn, hn0, hn1, k⟩ := h
    have hu := hu_of hr
    refine ⟨_, (pss_cons (ps_set (i := 2) scbehind.nd rfl (Or.inl rfl) (pe_call Gagain (hr.mono (by first | decide | omega)) rfl T.again.at_ T.again.kp bagain .nil pass0 (pa_cons (pe_ix ix_list (pv 0) (pe_un un_neg pe_int) (fun _ _ => rfl)) pa_nil)))
      (pss_cons (ps_set (i := 3) scbehind.nd rfl (Or.inl rfl) (pe_callTy call_list_of (by rfl) T.list (by decide +kernel) (pa_cons (pv 0) pa_nil)))
      (pss_cons (ps_set (i := 4) scbehind.nd rfl (Or.inl rfl) pe_non)
      (pss_cons (ps_if (pt_cmpR op_eq (pe_ix ix_tup (pv 1) pe_int (fun _ _ => rfl)) pe_str (nomark _))
        (pss_cons (ps_dput hu (pv 2) pe_str (pe_ix ix_tup (pv 1) pe_int (fun _ _ => rfl)) rfl)
        (pss_cons (ps_dput hu (pv 2) pe_str (pe_op op_add (pe_dget hu (pv 2) pe_str (fun _ _ => rfl)) pe_int) rfl)
        (pss_cons (ps_set (i := 4) scbehind.nd rfl (Or.inl rfl) (pe_dget hu (pv 2) pe_str (fun _ _ => rfl)))
        (pss_one (ps_expr (pe_bm PySem.F.plainAttrs_list PySem.F.slot_list_append PySem.F.type_list_append mt_append (pv 3) (pa_cons (pe_call Gagain (hr.mono (by first | decide | omega)) rfl T.again.at_ T.again.kp bagain .nil pass0 (pa_cons (pv 2) pa_nil)) pa_nil)))))))
        pss_nil)
      (pss_cons (ps_if (pt_cmpR op_eq (pe_ix ix_tup (pv 1) pe_int (fun _ _ => rfl)) pe_str (nomark _))
        (pss_cons (ps_set (i := 4) scbehind.nd rfl (Or.inl rfl) (pe_lst pa_nil))
        (pss_one (ps_for PassesOwn.never rfl (pi_list (pe_ix ix_tup (pv 1) pe_int (fun _ _ => rfl))) (pg_tup rfl (pgs_cons (pg_name (i := 5) scbehind.nd rfl (Or.inl rfl)) (pgs_cons (pg_name (i := 6) scbehind.nd rfl (Or.inl rfl)) (pgs_cons (pg_name (i := 7) scbehind.nd rfl (Or.inl rfl)) pgs_nil))))
          (pss_cons (ps_expr (pe_bm PySem.F.plainAttrs_list PySem.F.slot_list_append PySem.F.type_list_append mt_append (pv 4) (pa_cons (pe_call Gdeal (hr.mono (by first | decide | omega)) rfl T.deal.at_ T.deal.kp bdeal .nil pass0 (pa_cons (pv 2) (pa_cons (pv 5) (pa_cons (pv 6) (pa_cons (pv 7) pa_nil))))) pa_nil)))
          (pss_one (ps_if (pt_cmpR op_eq (pe_dget hu (pv 2) pe_str (fun _ _ => rfl)) (pe_callB call_len_seq (by rfl) T.len PySem.boot_len (pa_cons (pv 3) pa_nil)) (nomark _))
            (pss_one (ps_expr (pe_bm PySem.F.plainAttrs_list PySem.F.slot_list_append PySem.F.type_list_append mt_append (pv 3) (pa_cons (pe_call Gagain (hr.mono (by first | decide | omega)) rfl T.again.at_ T.again.kp bagain .nil pass0 (pa_cons (pv 2) pa_nil)) pa_nil))))
            pss_nil))))))
        pss_nil)
      (pss_one (ps_ret (pe_tup (pa_cons (pv 4) (pa_cons (pv 3) pa_nil)))))))))), ?_⟩
    obtain ⟨xs, eS, lS⟩ := LS.ex
    -- store_here = again(stores[-1]); found = list(stores)
    refine ⟨_, rfl, 1, rfl, S, _, -1, .ref s, rfl, rfl, SqL.of eS, atI_last _ _, s, r, h, t, n, rfl, LS.st, fun G1 s1 r1 h1 ns nr nh S1 k1 => ?_⟩
    refine ⟨_, rfl, S, xs ++ [.ref s], rfl, .inl (SqL.of (k1.t.lst eS fun z => z)), fun f nf => ?_⟩
    have kf : Kp No G1 (upd G1 f (.lst (xs ++ [.ref s]))) := Kp.new nf
    have ef : upd G1 f (.lst (xs ++ [.ref s])) f = some (.lst (xs ++ [.ref s])) := upd_same
    generalize upd G1 f (.lst (xs ++ [.ref s])) = G2 at kf ef ⊢
    have k2 : Kp No H G2 := k1.trans kf fun _ z => False.elim z
    have nfH : H f = none := k1.free nf fun z => False.elim z
    have hv2 : VtAt G2 v e := by
      cases e with
      | tick m => obtain ⟨u, e1, e2⟩ := hv; exact ⟨u, e1, k2.t.tup e2⟩
      | tidy p => obtain ⟨u, e1, e2⟩ := hv; exact ⟨u, e1, k2.t.tup e2⟩
      | deals gs => obtain ⟨u, gp, ys, e1, e2, e3, e4⟩ := hv; exact ⟨u, gp, ys, e1, k2.t.tup e2, k2.t.lst e3 (fun z => z), e4.mono fun _ _ z => z.kt k2.t⟩
    have S2 := S1.no kf
    have Sold := LS.st.no k2
    cases e with
    | tidy p =>
      obtain ⟨u, rfl, e2⟩ := hv2
      refine ⟨_, rfl, u, _, 0, .str "tidy", rfl, rfl, SqT.of e2, rfl, rfl, _, rfl, iteF ?_⟩
      refine ⟨_, rfl, u, _, 0, .str "tidy", rfl, rfl, SqT.of e2, rfl, rfl, _, rfl, iteF ?_⟩
      refine ⟨_, rfl, _, rfl, sz 2 (by decide), fun b nb => ?_⟩
      have kb : Kp No G2 (upd G2 b (.tup [.non, .ref f])) := Kp.new nb
      exact k _ b f s r h .non (k2.trans kb fun _ z => False.elim z) nfH upd_same ⟨⟨xs, kb.t.lst ef (fun z => z), lS⟩, (Sold.no kb).le (by omega)⟩ (.inl ⟨rfl, rfl, rfl⟩) rfl (fun to z => by cases z)
    | tick m =>
      obtain ⟨u, rfl, e2⟩ := hv2
      refine ⟨_, rfl, u, _, 0, .str "tick", rfl, rfl, SqT.of e2, rfl, rfl, _, rfl, iteT ?_⟩
      have kd : ∀ x, Kp (fun b => b = s1) G2 (upd G2 s1 (.dK x)) := fun x => Kp.updD S2.dc rfl
      refine ⟨_, rfl, u, _, 1, .int m, rfl, rfl, SqT.of e2, rfl, _, rfl, s1, _, rfl, DPut.k (k := Sum.inr "moment") S2.dc (szL (by show 4 ≤ 16000; decide)), ?_⟩
      rw [q_moment]
      refine ⟨_, rfl, s1, _, rfl, dgS upd_same o_number, _, _, rfl, rfl, _, rfl, s1, _, rfl, DPut.k (k := Sum.inr "number") upd_same (szL (by show 4 ≤ 16000; decide)), ?_⟩
      rw [q_number, upd_upd]
      have k3 := kd (ofs r1 h1 m (t.num + 1))
      have S3 : StL (upd G2 s1 (.dK (ofs r1 h1 m (t.num + 1)))) s1 r1 h1 (t.next (.tick m)) n := ⟨upd_same, S2.rows.kt k3.t S2.sr.symm, S2.hands.kt k3.t S2.sh.symm, S2.sr, S2.sh, S2.rh, S2.rk.kt k3.t S2.sr.symm⟩
      have nfs : f ≠ s1 := ne_of ef S2.dc (by intro z; cases z)
      have ef3 := k3.t.lst ef nfs
      have e23 := k3.t.tup e2
      generalize upd G2 s1 (.dK (ofs r1 h1 m (t.num + 1))) = G3 at k3 S3 ef3 e23 ⊢
      refine ⟨_, rfl, s1, _, rfl, dgS S3.dc o_number, ?_⟩
      refine ⟨_, rfl, .inl ⟨rfl, _, SqL.of ef3⟩, _, rfl, s1, r1, h1, t.next (.tick m), n, rfl, S3, fun G4 s2 r2 h2 ns2 nr2 nh2 S4 k4 => ⟨f, _, _, rfl, rfl, k4.t.lst ef3 (fun z => z), sz _ ?_, ?_⟩⟩
      · rw [List.length_append]
        simp only [List.length_cons, List.length_nil]
        omega
      have ef4 := k4.t.lst ef3 fun z => z
      have k5 : Kp (fun b => b = f) G4 (upd G4 f (.lst (xs ++ [.ref s] ++ [.ref s2]))) := Kp.updL ef4 rfl
      have nfd : ∀ b kvs, G4 b = some (.dK kvs) → (b = s2 ∨ b = r2 ∨ b = h2) → ¬ b = f := fun b kvs e _ z => by rw [z, ef4] at e; cases e
      have S5 := S4.kt k5.t nfd
      have ef5 : upd G4 f (.lst (xs ++ [.ref s] ++ [.ref s2])) f = some (.lst (xs ++ [.ref s] ++ [.ref s2])) := upd_same
      have kF : Kp (fun b => b = s1 ∨ b = f) G2 (upd G4 f (.lst (xs ++ [.ref s] ++ [.ref s2]))) := ((k3.sub (F' := fun b => b = s1 ∨ b = f) fun b z => .inl z).trans k4 fun _ z => False.elim z).trans k5 fun b z => .inl (.inr z)
      have kH : Kp No H (upd G4 f (.lst (xs ++ [.ref s] ++ [.ref s2]))) := kp_fresh ((k2.sub (F' := fun b => b = s1 ∨ b = f) fun _ z => False.elim z).trans kF fun b z => .inl z) fun b z => by rcases z with z | z <;> rw [z] <;> assumption
      have fr : ∀ {c : Addr}, G3 c = none → H c = none := fun {c} z => by
        by_cases y : c = s1
        · rw [y, S3.dc] at z; cases z
        · exact k2.free (k3.free z fun z => absurd z y) fun z => False.elim z
      have e25 := k5.t.tup (k4.t.tup e23)
      generalize upd G4 f (.lst (xs ++ [.ref s] ++ [.ref s2])) = G5 at S5 ef5 kH e25 ⊢
      refine ⟨_, rfl, u, _, 0, .str "tick", rfl, rfl, SqT.of e25, rfl, rfl, _, rfl, iteF ?_⟩
      refine ⟨_, rfl, _, rfl, sz 2 (by decide), fun b nb => ?_⟩
      have kb : Kp No G5 (upd G5 b (.tup [.int (t.num + 1), .ref f])) := Kp.new nb
      exact k _ b f s2 r2 h2 _ (kH.trans kb fun _ z => False.elim z) nfH upd_same ⟨⟨xs ++ [.ref s], kb.t.lst ef5 (fun z => z), by rw [List.length_append]; show ((xs.length + 1 : Nat) : Int) = t.num + 1; omega⟩, (S5.no kb).le (by omega)⟩ (.inr ⟨fr ns2, fr nr2, fr nh2⟩) rfl (fun to z => by cases z)
    | deals gs =>
      obtain ⟨u, gp, ys, rfl, e2, e3, e4⟩ := hv2
      refine ⟨_, rfl, u, _, 0, .str "deals", rfl, rfl, SqT.of e2, rfl, rfl, _, rfl, iteF ?_⟩
      refine ⟨_, rfl, u, _, 0, .str "deals", rfl, rfl, SqT.of e2, rfl, rfl, _, rfl, iteT ?_⟩
      refine ⟨sz 0 (by decide), fun to nto => ?_⟩
      have kto : Kp No G2 (upd G2 to (.lst [])) := Kp.new nto
      have eto : upd G2 to (.lst []) to = some (.lst []) := upd_same
      have ntf : to ≠ f := (ne_of_none ef nto).symm
      generalize upd G2 to (.lst []) = G3 at kto eto ⊢
      have k3 : Kp No H G3 := k2.trans kto fun _ z => False.elim z
      have ntoH : H to = none := k2.free nto fun z => False.elim z
      have there : ∀ c, (c = s ∨ c = r ∨ c = h) → ∃ o, H c = some o := fun c z => by
        obtain ⟨_, q1⟩ := LS.st.rows.dc
        obtain ⟨_, q2⟩ := LS.st.hands.dc
        rcases z with z | z | z <;> rw [z]
        · exact ⟨_, LS.st.dc⟩
        · exact ⟨_, q1⟩
        · exact ⟨_, q2⟩
      obtain ⟨okg, l4, hds⟩ := hok
      refine ⟨_, rfl, u, _, 1, .ref gp, rfl, rfl, SqT.of (kto.t.tup e2), rfl, gp, rfl, ⟨_, SqL.of (kto.t.lst e3 fun z => z)⟩, for_list (K := K) (a := gp) (xs := ys) (fun i σ J => ∃ o1 o2 o3 rr pre sL rL hL vs, σ = [some (.ref S), some (.ref u), some (.ref s1), some (.ref f), some (.ref to), o1, o2, o3] ∧ Kp No H J ∧ J gp = some (.lst ys) ∧ H rr = none ∧ StL J s1 rr h1 (dlT t (gs.take i)) (n + 5 * i) ∧ J f = some (.lst (pre ++ [V.ref sL])) ∧ ((pre.length : Nat) : Int) = (dlT t (gs.take i)).num ∧ StL J sL rL hL (dlT t (gs.take i)) (n + 5 * i) ∧ ((sL = s ∧ rL = r ∧ hL = h) ∨ (H sL = none ∧ H rL = none ∧ H hL = none)) ∧ (∀ c, (c = sL ∨ c = rL ∨ c = hL) → c ≠ s1 ∧ c ≠ h1) ∧ J to = some (.lst vs) ∧ Paired (TpAt J) vs (tolds t (gs.take i)) ∧ Paired (GdAt J) ys gs)
        ⟨_, _, _, r1, xs, s, r, h, [], rfl, k3, kto.t.lst e3 (fun z => z), nr, by rw [List.take_zero]; exact S2.no kto, kto.t.lst ef (fun z => z), by rw [List.take_zero]; exact lS, by rw [List.take_zero]; exact Sold.no kto, .inl ⟨rfl, rfl, rfl⟩, fun c z => by
          obtain ⟨o, ho⟩ := there c z
          exact ⟨(fun y => by rw [y, ns] at ho; cases ho), fun y => by rw [y, nh] at ho; cases ho⟩, eto, by rw [List.take_zero]; exact .nil, e4.mono fun _ _ z => z.kt kto.t⟩ (fun i σ J _ ⟨_, _, _, _, _, _, _, _, _, _, _, eg, _⟩ => SqL.of eg) ?_ ?_⟩
      · rintro i x σ J hx ⟨o1, o2, o3, rr, pre, sL, rL, hL, vs, rfl, kJ, eg, nrr, SJ, eJ, lJ, SL, hL1, hL2, eT, pT, pG⟩
        obtain ⟨g, hg, v1, dv, rfl, hv1, hdv⟩ := paired_at pG hx
        obtain ⟨f', okf, _⟩ := okg.drop i g hg
        obtain ⟨g0, g3, x1, _, _, _, g4, _⟩ := okf
        have hi : i < gs.length := (List.getElem?_eq_some_iff.mp hg).1
        refine ⟨v1, _, rfl, SqT.of hv1, rfl, _, _, rfl, _, _, rfl, _, _, rfl, rfl, ?_⟩
        refine ⟨_, rfl, .inl ⟨rfl, _, SqL.of eT⟩, _, rfl, _, rfl, _, rfl, _, rfl, s1, rr, h1, g.hd, g.x, dv, _, _, g.ds, rfl, SJ, hdv, hds g (List.mem_of_getElem? hg), by omega, g0, g3, x1, fun G4 rr2 uu hrr k4 S4 hu4 => ⟨to, vs, _, rfl, rfl, ?_, szL ?_, ?_⟩⟩
        · exact k4.t.lst eT fun z => by
            obtain ⟨_, q2⟩ := SJ.hands.dc
            rcases z with z | z
            · exact ne_of eT SJ.dc (by intro z; cases z) z
            · exact ne_of eT q2 (by intro z; cases z) z
        · rw [pT.length, tolds_len, List.length_take]
          omega
        have n_l : ∀ {c : Addr} {ys : List V}, J c = some (.lst ys) → ¬ (c = s1 ∨ c = h1) := fun e z => by
          obtain ⟨_, q2⟩ := SJ.hands.dc
          rcases z with z | z
          · exact ne_of e SJ.dc (by intro z; cases z) z
          · exact ne_of e q2 (by intro z; cases z) z
        have eT4 := k4.t.lst eT (n_l eT)
        have ka : Kp (fun b => b = to) G4 (upd G4 to (.lst (vs ++ [.ref uu]))) := Kp.updL eT4 rfl
        have nfd : ∀ {s r h : Addr}, ∀ b kvs, G4 b = some (.dK kvs) → (b = s ∨ b = r ∨ b = h) → ¬ b = to := fun b kvs e _ z => by rw [z, eT4] at e; cases e
        have S5 := S4.kt ka.t nfd
        have SL4 : StL G4 sL rL hL (dlT t (gs.take i)) (n + 5 * i) := SL.kt k4.t fun b kvs e z y => by
          obtain ⟨n1, n2⟩ := hL2 b z
          exact y.elim n1 n2
        have SL5 := SL4.kt ka.t nfd
        have kJ5 : Kp (fun b => b = s1 ∨ b = h1 ∨ b = to) J (upd G4 to (.lst (vs ++ [.ref uu]))) := (k4.sub (F' := fun b => b = s1 ∨ b = h1 ∨ b = to) fun b z => z.imp id .inl).trans ka fun b z => .inl (.inr (.inr z))
        have kH5 : Kp No H (upd G4 to (.lst (vs ++ [.ref uu]))) := kp_fresh ((kJ.sub (F' := fun b => b = s1 ∨ b = h1 ∨ b = to) fun _ z => False.elim z).trans kJ5 fun b z => .inl z) fun b z => by rcases z with z | z | z <;> rw [z] <;> assumption
        have ef5 : upd G4 to (.lst (vs ++ [.ref uu])) f = some (.lst (pre ++ [V.ref sL])) := ka.t.lst (k4.t.lst eJ (n_l eJ)) (fun z => ntf z.symm)
        have ng : ¬ gp = to := by
          intro z
          rw [z] at e3
          rw [nto] at e3
          cases e3
        have eg5 : upd G4 to (.lst (vs ++ [.ref uu])) gp = some (.lst ys) := ka.t.lst (k4.t.lst eg (n_l eg)) ng
        have pT5 : Paired (TpAt (upd G4 to (.lst (vs ++ [.ref uu])))) (vs ++ [.ref uu]) (tolds t (gs.take (i + 1))) := by
          rw [take_snoc hg, tolds_snoc]
          exact (pT.mono fun _ _ z => (z.kt k4.t).kt ka.t).snoc ⟨uu, rfl, ka.t.tup hu4⟩
        have eT5 : upd G4 to (.lst (vs ++ [.ref uu])) to = some (.lst (vs ++ [.ref uu])) := upd_same
        have pG5 : Paired (GdAt (upd G4 to (.lst (vs ++ [.ref uu])))) ys gs := pG.mono fun _ _ z => (z.kt k4.t).kt ka.t
        have nrr2 : H rr2 = none := hrr.elim (fun y => by rw [y]; exact nrr) fun y => kJ.free y fun z => False.elim z
        have et : dlT t (gs.take (i + 1)) = dl1 (dlT t (gs.take i)) ⟨g.hd, g.x, g.ds⟩ := by rw [take_snoc hg, dlT_snoc]
        generalize upd G4 to (.lst (vs ++ [.ref uu])) = G5 at S5 SL5 kH5 ef5 eg5 pT5 eT5 pG5 ⊢
        refine ⟨_, rfl, s1, _, rfl, dgS S5.dc o_number, _, rfl, f, _, rfl, .inl (SqL.of ef5), rfl, _, rfl, ?_⟩
        have lf : (((pre ++ [V.ref sL]).length : Nat) : Int) = (dlT t (gs.take i)).num + 1 := by
          rw [List.length_append]
          show ((pre.length + 1 : Nat) : Int) = _
          omega
        rw [lf]
        have hL25 : ∀ c, (c = sL ∨ c = rL ∨ c = hL) → c ≠ s1 ∧ c ≠ h1 := hL2
        by_cases hx2 : g.x = lastL (dlT t (gs.take i)).hands g.hd
        · have ed : dl1 (dlT t (gs.take i)) ⟨g.hd, g.x, g.ds⟩ = dlT t (gs.take i) := if_pos hx2
          have hne : decide (V.int (dl1 (dlT t (gs.take i)) ⟨g.hd, g.x, g.ds⟩).num = V.int ((dlT t (gs.take i)).num + 1)) = false := by
            rw [ed]
            exact decide_eq_false fun z => by injection z with z; omega
          rw [hne]
          refine iteF ⟨_, _, _, rr2, pre, sL, rL, hL, _, rfl, kH5, eg5, nrr2, ?_, ef5, ?_, ?_, hL1, hL25, eT5, pT5, pG5⟩
          · rw [et]
            exact S5.le (by omega)
          · rw [et, ed]; exact lJ
          · rw [et, ed]
            exact SL5.le (by omega)
        · have ed : dl1 (dlT t (gs.take i)) ⟨g.hd, g.x, g.ds⟩ = (dlT t (gs.take i)).next (.deal g.hd g.x g.ds) := if_neg hx2
          have hne : decide (V.int (dl1 (dlT t (gs.take i)) ⟨g.hd, g.x, g.ds⟩).num = V.int ((dlT t (gs.take i)).num + 1)) = true := by
            rw [ed]
            simp [TT.next]
          rw [hne]
          have hlen : (pre ++ [V.ref sL]).length ≤ 2000 := by
            have : (dlT t (gs.take i)).num ≤ 1000 + i := by
              have : ∀ (gs : List Gd) (t : TT), (dlT t gs).num ≤ t.num + gs.length := by
                intro gs
                induction gs with
                | nil => intro t; show t.num ≤ t.num + 0; omega
                | cons g gs ih =>
                  intro t
                  have h1 := ih (dl1 t g)
                  have h2 : (dl1 t g).num ≤ t.num + 1 := by
                    unfold dl1
                    split
                    · omega
                    · show t.num + 1 ≤ t.num + 1
                      omega
                  show (dlT (dl1 t g) gs).num ≤ t.num + ((gs.length + 1 : Nat) : Int)
                  omega
              have h3 := this (gs.take i) t
              have h4 : (gs.take i).length ≤ i := by rw [List.length_take]; omega
              omega
            omega
          refine iteT ⟨_, rfl, .inl ⟨rfl, _, SqL.of ef5⟩, _, rfl, s1, rr2, h1, _, _, rfl, S5, fun G6 s2 r2 h2 ns2 nr2 nh2 S6 k6 => ⟨f, _, _, rfl, rfl, k6.t.lst ef5 (fun z => z), szL (by omega), ?_⟩⟩
          have ef6 := k6.t.lst ef5 fun z => z
          have k7 : Kp (fun b => b = f) G6 (upd G6 f (.lst (pre ++ [V.ref sL] ++ [.ref s2]))) := Kp.updL ef6 rfl
          have nfd6 : ∀ {s r h : Addr}, ∀ b kvs, G6 b = some (.dK kvs) → (b = s ∨ b = r ∨ b = h) → ¬ b = f := fun b kvs e _ z => by rw [z, ef6] at e; cases e
          have S7 := (S5.no k6).kt k7.t nfd6
          have SL7 := S6.kt k7.t nfd6
          have k57 : Kp (fun b => b = f) G5 (upd G6 f (.lst (pre ++ [V.ref sL] ++ [.ref s2]))) := (k6.sub fun _ z => False.elim z).trans k7 fun b z => .inl z
          have kH7 : Kp No H (upd G6 f (.lst (pre ++ [V.ref sL] ++ [.ref s2]))) := kp_fresh ((kH5.sub (F' := fun b => b = f) fun _ z => False.elim z).trans k57 fun b z => .inl z) fun b z => by rw [z]; exact nfH
          have fr : ∀ {c : Addr}, G5 c = none → H c = none := fun {c} z => kH5.free z fun z => False.elim z
          obtain ⟨kh5, eh5⟩ := S5.hands.dc
          refine ⟨_, _, _, rr2, pre ++ [V.ref sL], s2, r2, h2, _, rfl, kH7, k57.t.lst eg5 (fun z => ?_), nrr2, ?_, upd_same, ?_, ?_, .inr ⟨fr ns2, fr nr2, fr nh2⟩, fun c z => ⟨fun y => ?_, fun y => ?_⟩, k57.t.lst eT5 ntf, pT5.mono fun _ _ z => z.kt k57.t, pG5.mono fun _ _ z => z.kt k57.t⟩
          · have z : gp = f := z
            obtain ⟨u0, gp0, ys0, e10, e20, e30, _⟩ := hv
            cases e10
            have e21 := k2.t.tup e20
            rw [e2] at e21
            cases e21
            rw [z, nfH] at e30
            cases e30
          · rw [et]
            exact S7.le (by omega)
          · rw [lf, et, ed]
            rfl
          · rw [et]
            exact SL7.le (by omega)
          · rw [y] at z
            rcases z with z | z | z
            · rw [← z, S5.dc] at ns2; cases ns2
            · rw [← z, S5.dc] at nr2; cases nr2
            · rw [← z, S5.dc] at nh2; cases nh2
          · rw [y] at z
            rcases z with z | z | z
            · rw [← z, eh5] at ns2; cases ns2
            · rw [← z, eh5] at nr2; cases nr2
            · rw [← z, eh5] at nh2; cases nh2
      · rintro σ J ⟨o1, o2, o3, rr, pre, sL, rL, hL, vs, rfl, kJ, eg, nrr, SJ, eJ, lJ, SL, hL1, hL2, eT, pT, pG⟩
        rw [pG.length, List.take_length] at SJ lJ SL pT
        refine ⟨_, rfl, _, rfl, sz 2 (by decide), fun b nb => ?_⟩
        have kb : Kp No J (upd J b (.tup [.ref to, .ref f])) := Kp.new nb
        exact k _ b f sL rL hL _ (kJ.trans kb fun _ z => False.elim z) nfH upd_same ⟨⟨pre, kb.t.lst eJ (fun z => z), lJ⟩, (SL.no kb).le (by omega)⟩ hL1 ⟨to, vs, rfl, kb.t.lst eT (fun z => z), pT.mono fun _ _ z => z.kt kb.t⟩ (fun to' z => by cases z; exact ⟨ntoH, ntf⟩)
end
end S02

set_option Elab.async false
set_option linter.all false
set_option maxRecDepth 100000
set_option maxHeartbeats 4000000
namespace S02
open PySem PySem.Spec PyProof.Rows L2 K5 SupX GenX
section
variable {P : Program} {w : World} {K : PySem.W.Frag} {mg : Str → Option Value} {base : Heap} {A : Ad} {tp : Nat → Addr} {nr pl B C fI : Addr}
theorem scdo : FnScope ["_law_lead", "_law_event_here"] ["_law_lead", "_law_event_here"] (defScope s_do) := ⟨rfl, rfl, rfl, by decide +kernel, rfl, by decide +kernel, by decide +kernel⟩
def spDo (A : Ad) (K : PySem.W.Frag) (tp : Nat → Addr) : Sp := fun vs H Q _ => ∃ (l : Addr) (a : La) (t : TT) (n : Nat) (m : M) (v : V) (e : Vt) (x0 : Int), vs = [.ref l, v] ∧ LeadAt A K H l a t n m ∧ Tg (tL tp) H ∧ VtAt H v e ∧ e.ok t ∧ n ≤ 13000 ∧ 0 ≤ t.num ∧ Enough m (x0 + 16) ∧ 0 ≤ x0 ∧
  ∀ G a' m' tv, LeadAt A K G l a' (e.next t) (n + 25) m' → Enough m' x0 → a'.d = a.d → (∀ b, lF l a' b → lF l a b ∨ H b = none) → Kg (tL tp) (lF l a) H G → ToAt G tv t e → (∀ to, tv = .ref to → H to = none ∧ ¬ lF l a' to) → (a'.cs = a.cs ∧ a'.bg = a.bg ∧ a'.sh = a.sh) → Q tv G
theorem LeadAt.le {A : Ad} {K : PySem.W.Frag} {H : Hp} {l : Addr} {a : La} {t : TT} {n n2 : Nat} {m : M} (L : LeadAt A K H l a t n m) (h : n ≤ n2) : LeadAt A K H l a t n2 m := ⟨L.at_, L.sto, L.rt, L.r0, L.tab.le h, L.ent, L.shf, L.n1, L.n2, L.n3, L.ap⟩
theorem ok_do (T : Txt K mg A) (TB : TbsB base mg A tp) (X : Ex P w K mg A B C fI) (htop : (P.main.scope.names.lookup ("super" : Str)).isSome = false) : ∃ fd, FnOk P w K mg base CX0 13 (A.d 76) fd ["_law_lead", "_law_event_here"] (spDo A K tp) ∧ Binds K fd ["_law_lead", "_law_event_here"] [] := by
  obtain ⟨fd, F⟩ := T.do_.fn
  obtain ⟨fd1, G_Lead_deals, b_Lead_deals⟩ := ok_deals (P := P) (w := w) (base := base) T TB X htop
  obtain ⟨fd2, G_Lead_tick, b_Lead_tick⟩ := ok_tick (P := P) (w := w) (base := base) T TB X
  obtain ⟨fd3, G_Lead_tidy, b_Lead_tidy⟩ := ok_tidy (P := P) (w := w) (base := base) T TB
  refine ⟨fd, F.ok scdo (fun vs H Q E h => ?_) (fun cdv Ar outer s0 H vs Q E hr h => ?_), F.binds fun _ _ _ _ _ _ us hl => match us, hl with | [_, _], _ => rfl⟩
  · obtain ⟨l, a, t, n, m, v, e, x0, rfl, _⟩ := h
    rfl
  · obtain ⟨l, a, t, n, m, v, e, x0, rfl, L, TG, hv, hok, hn, hnu, en, h0, k⟩ := h
    refine ⟨_, (pss_cons (ps_if (pt_cmpR op_eq (pe_ix ix_tup (pv 1) pe_int (fun _ _ => rfl)) pe_str (nomark _))
        (pss_one (ps_ret (pe_meth (pv 0) T.cl_Lead T.m_Lead_deals.me G_Lead_deals (hr.mono (by first | decide | omega)) b_Lead_deals .nil pass0 (pa_cons (pe_ix ix_tup (pv 1) pe_int (fun _ _ => rfl)) pa_nil))))
        pss_nil)
      (pss_one (ps_ret (pe_ifExp (pt_cmpR op_eq (pe_ix ix_tup (pv 1) pe_int (fun _ _ => rfl)) pe_str (nomark _)) (pe_meth (pv 0) T.cl_Lead T.m_Lead_tick.me G_Lead_tick (hr.mono (by first | decide | omega)) b_Lead_tick .nil pass0 (pa_cons (pe_ix ix_tup (pv 1) pe_int (fun _ _ => rfl)) pa_nil)) (pe_meth (pv 0) T.cl_Lead T.m_Lead_tidy.me G_Lead_tidy (hr.mono (by first | decide | omega)) b_Lead_tidy .nil pass0 (pa_cons (pe_ix ix_tup (pv 1) pe_int (fun _ _ => rfl)) pa_nil)))))), ?_⟩
    obtain ⟨dx, hs, el⟩ := L.at_
    cases e with
    | deals gs =>
      obtain ⟨u, gp, xs, rfl, hu, hgp, pg⟩ := hv
      refine ⟨_, rfl, u, _, 0, .str "deals", rfl, rfl, SqT.of hu, rfl, rfl, _, rfl, iteT ?_⟩
      refine ⟨_, rfl, l, dx, _, rfl, el, rfl, _, rfl, u, _, 1, .ref gp, rfl, rfl, SqT.of hu, rfl, l, a, t, n, m, gp, xs, gs, x0, rfl, L, TG, hgp, pg, hok.2.1, hok.1, hn, hnu, .inr en, (fun _ => en.le (by omega)), h0, fun G a' m' to vs q1 q2 q3 q4 q5 q6 q7 q8 q9 q10 => ?_⟩
      exact k G a' m' (.ref to) (q1.le (by omega)) q2 q3 q4 q5 ⟨to, vs, rfl, q9, q10⟩ (fun to' z => by cases z; exact ⟨q7, q8⟩) q6
    | tick mo =>
      obtain ⟨u, rfl, hu⟩ := hv
      refine ⟨_, rfl, u, _, 0, .str "tick", rfl, rfl, SqT.of hu, rfl, rfl, _, rfl, iteF ?_⟩
      refine ⟨_, rfl, u, _, 0, .str "tick", rfl, rfl, SqT.of hu, rfl, rfl, _, rfl, iteT ?_⟩
      refine ⟨_, rfl, l, dx, _, rfl, el, rfl, _, rfl, u, _, 1, .int mo, rfl, rfl, SqT.of hu, rfl, l, a, t, n, m, mo, x0, rfl, L, TG, hok.1, hok.2, by omega, hnu, en, h0, fun G a' m' q1 q2 q3 q4 q5 q6 => ?_⟩
      exact k G a' m' _ (q1.le (by omega)) q2 q3 q4 q5 rfl (fun to' z => by cases z) q6
    | tidy p =>
      obtain ⟨u, rfl, hu⟩ := hv
      refine ⟨_, rfl, u, _, 0, .str "tidy", rfl, rfl, SqT.of hu, rfl, rfl, _, rfl, iteF ?_⟩
      refine ⟨_, rfl, u, _, 0, .str "tidy", rfl, rfl, SqT.of hu, rfl, rfl, _, rfl, iteF ?_⟩
      refine ⟨_, rfl, l, dx, _, rfl, el, rfl, _, rfl, u, _, 1, .int p, rfl, rfl, SqT.of hu, rfl, l, a, t, n, m, p, x0, rfl, L, TG, hok.1, hok.2, by omega, en, h0, fun G a' m' q1 q2 q3 q4 q5 q6 => ?_⟩
      exact k G a' m' _ (q1.le (by omega)) q2 q3 q4 q5 rfl (fun to' z => by cases z) q6
end
end S02

set_option Elab.async false
set_option linter.all false
set_option maxRecDepth 100000
set_option maxHeartbeats 4000000
namespace S02
open PySem PySem.Spec PyProof.Rows L2 K5 SupX GenX
/-! the bounds that an event keeps -/
structure Bd (t : TT) (c : Nat) : Prop where
  rows : RowsOk t.rows
  n0 : 0 ≤ t.num
  n1 : t.num ≤ 4 * c
  m0 : 0 ≤ t.mom
  m1 : t.mom ≤ 1000000
  l0 : ∀ j, 0 ≤ lastL t.hands j
theorem Bd.new : Bd TT.new 0 := ⟨fun k w e z => (by cases z), Int.le_refl _, Int.le_refl _, Int.le_refl _, (by decide), fun j => Int.le_refl _⟩
theorem dlT_mom : ∀ (gs : List Gd) (t : TT), (dlT t gs).mom = t.mom
  | [], _ => rfl
  | g :: gs, t => by
    show (dlT (dl1 t g) gs).mom = _
    rw [dlT_mom gs]
    unfold dl1
    split <;> rfl
theorem dlT_num : ∀ (gs : List Gd) (t : TT), t.num ≤ (dlT t gs).num ∧ (dlT t gs).num ≤ t.num + gs.length
  | [], t => ⟨Int.le_refl _, by show t.num ≤ t.num + 0; omega⟩
  | g :: gs, t => by
    have h1 := dlT_num gs (dl1 t g)
    have h2 : t.num ≤ (dl1 t g).num ∧ (dl1 t g).num ≤ t.num + 1 := by
      unfold dl1
      split
      · omega
      · show t.num ≤ t.num + 1 ∧ t.num + 1 ≤ t.num + 1
        omega
    show t.num ≤ (dlT (dl1 t g) gs).num ∧ (dlT (dl1 t g) gs).num ≤ t.num + ((gs.length + 1 : Nat) : Int)
    omega
theorem dlT_rows : ∀ (gs : List Gd) (t : TT), RowsOk t.rows → (∀ g ∈ gs, ∀ d ∈ g.ds, d.ok = true) → RowsOk (dlT t gs).rows
  | [], _, h, _ => h
  | g :: gs, t, h, hd => dlT_rows gs (dl1 t g) (dl1_rows h (hd g List.mem_cons_self)) fun g' z => hd g' (List.mem_cons_of_mem _ z)
theorem dlT_l0 : ∀ (gs : List Gd) (t : TT), (∀ j, 0 ≤ lastL t.hands j) → okG (lastL t.hands) gs → ∀ j, 0 ≤ lastL (dlT t gs).hands j
  | [], _, h, _, j => h j
  | g :: gs, t, h, hk, j => by
    have e : lastL (dl1 t g).hands = setL (lastL t.hands) g.hd g.x := funext fun j => dl1_last t g j
    refine dlT_l0 gs (dl1 t g) (fun i => ?_) (by rw [e]; exact hk.2.2.2.2.2.2.2) j
    rw [dl1_last]
    split
    · have := hk.2.2.1; omega
    · exact h i
theorem Bd.next {t : TT} {c : Nat} {e : Vt} (b : Bd t c) (ok : e.ok t) : Bd (e.next t) (c + 1) := by
  cases e with
  | tidy p => exact ⟨b.rows, b.n0, by have h := b.n1; show t.num ≤ 4 * ((c + 1 : Nat) : Int); omega, b.m0, b.m1, b.l0⟩
  | tick m =>
    have h := b.n1
    have h0 := b.n0
    have hm := b.m0
    obtain ⟨o1, o2⟩ := ok
    exact ⟨b.rows, by show 0 ≤ t.num + 1; omega, by show t.num + 1 ≤ 4 * ((c + 1 : Nat) : Int); omega, by show 0 ≤ m; omega, o2, b.l0⟩
  | deals gs =>
    obtain ⟨o1, o2, o3⟩ := ok
    have h := b.n1
    have h0 := b.n0
    have hn := dlT_num gs t
    refine ⟨dlT_rows gs t b.rows o3, by show 0 ≤ (dlT t gs).num; omega, by show (dlT t gs).num ≤ 4 * ((c + 1 : Nat) : Int); omega, ?_, ?_, dlT_l0 gs t b.l0 o1⟩
    · show 0 ≤ (dlT t gs).mom
      rw [dlT_mom]; exact b.m0
    · show (dlT t gs).mom ≤ 1000000
      rw [dlT_mom]; exact b.m1
end S02

set_option Elab.async false
set_option linter.all false
set_option maxRecDepth 100000
set_option maxHeartbeats 4000000
/-! ### the shelf: copies are begun, read, given up -/
namespace S02
open PySem PySem.Spec PyProof.Rows L2 K5 SupX GenX
section
variable {P : Program} {w : World} {K : PySem.W.Frag} {mg : Str → Option Value} {base : Heap} {A : Ad} {tp : Nat → Addr}
theorem ShAt.nf {H : Hp} {f c : Addr} {bg : Int} {cs : List Cp} {t : TT} (S : ShAt A H f c bg cs t) : ¬ csF cs f := fun ⟨x, hx, y⟩ => by
  obtain ⟨dx, ef⟩ := S.at_
  obtain ⟨dxx, exx⟩ := (S.each x hx).at_
  obtain ⟨kvs, eas, _⟩ := (S.each x hx).asd
  rcases y with y | y | y
  · exact fld_ne' ef exx (by intro z; cases z) y
  · rw [y, (S.each x hx).wan] at ef; cases ef
  · rw [y, eas] at ef; cases ef
theorem ShAt.nc {H : Hp} {f c : Addr} {bg : Int} {cs : List Cp} {t : TT} (S : ShAt A H f c bg cs t) : ¬ csF cs c := fun ⟨x, hx, y⟩ => by
  have ec := S.dic
  obtain ⟨dxx, exx⟩ := (S.each x hx).at_
  rcases y with y | y | y
  · rw [y, exx] at ec; cases ec
  · rw [y, (S.each x hx).wan] at ec; cases ec
  · exact S.asc x hx y.symm
theorem ShAt.nfc {H : Hp} {f c : Addr} {bg : Int} {cs : List Cp} {t : TT} (S : ShAt A H f c bg cs t) : f ≠ c := by
  obtain ⟨dx, ef⟩ := S.at_
  exact ne_of ef S.dic (by intro z; cases z)
theorem ShAt.add {H G : Hp} {f c : Addr} {bg : Int} {cs : List Cp} {t : TT} (S : ShAt A H f c bg cs t) {x : Cp} (k : Kt (fun b => b = f ∨ b = c) H G) (few : cs.length + 1 ≤ 10000) (hx : CpAt A G x t) (en : x.nm = bg) (new : ∀ b, cF x b → H b = none) (ef : ∃ dx, G f = some (.ins (A.c 28) dx (hfl (bg + 1) c))) (ec : G c = some (.dK (csK (cs ++ [x])))) : ShAt A G f c (bg + 1) (cs ++ [x]) t := by
  have old : ∀ y ∈ cs, ∀ b, cF y b → cF x b → False := fun y hy b h1 h2 => by
    obtain ⟨o, e⟩ := (S.each y hy).there h1
    rw [new b h2] at e
    cases e
  refine ⟨ef, ec, fun y hy => ?_, ?_, fun y hy => ?_, by rw [List.length_append]; exact few, fun y hy z hz b h1 h2 => ?_, fun y hy => ?_, by have := S.bg0; omega⟩
  · rcases List.mem_append.mp hy with h | h
    · refine (S.each y h).kt k fun b z q => ?_
      rcases z with z | z
      · exact S.nf ⟨y, h, z ▸ q⟩
      · exact S.nc ⟨y, h, z ▸ q⟩
    · rw [List.mem_singleton.mp h]; exact hx
  · rw [List.map_append, List.nodup_append]
    refine ⟨S.nms, by simp, fun p hp q hq e => ?_⟩
    obtain ⟨y, hy, rfl⟩ := List.mem_map.mp hp
    have := (S.bgs y hy).2
    rw [e, List.mem_singleton.mp hq, en] at this
    omega
  · rcases List.mem_append.mp hy with h | h
    · have := S.bgs y h
      omega
    · rw [List.mem_singleton.mp h, en]
      have := S.bg0
      omega
  · rcases List.mem_append.mp hy with h | h <;> rcases List.mem_append.mp hz with h' | h'
    · exact S.apart y h z h' b h1 h2
    · rw [List.mem_singleton.mp h'] at h2; exact (old y h b h1 h2).elim
    · rw [List.mem_singleton.mp h] at h1; exact (old z h' b h2 h1).elim
    · rw [List.mem_singleton.mp h, List.mem_singleton.mp h']
  · rcases List.mem_append.mp hy with h | h
    · exact S.asc y h
    · rw [List.mem_singleton.mp h]
      intro z
      have := new c (.inr (.inr z.symm))
      rw [S.dic] at this
      cases this
/-! ### begin -/
theorem scHb : FnScope ["self", "table", "name"] ["self", "table"] (defScope s_Shelf_begin) := ⟨rfl, rfl, rfl, by decide +kernel, rfl, by decide +kernel, by decide +kernel⟩
def spBegin (A : Ad) : Sp := fun vs H Q _ => ∃ (f c : Addr) (bg : Int) (cs : List Cp) (a r h g : Addr) (t : TT) (n : Nat), vs = [.ref f, .ref a] ∧ ShAt A H f c bg cs t ∧ TabAt A H a r h g t n ∧ cs.length + 1 ≤ 10000 ∧ a ≠ f ∧
  ∀ G x, x.nm = bg → x.num = t.num → x.t0 = t → x.want = keysFrom 0 9 → (∀ b, cF x b → H b = none) → ShAt A G f c (bg + 1) (cs ++ [x]) t → Kp (fun b => b = f ∨ b = c) H G → Q (.int bg) G
theorem ok_begin (T : Txt K mg A) : ∃ fd, FnOk P w K mg base CX0 3 (A.m 28 1) fd ["self", "table"] (spBegin A) ∧ Binds K fd ["self", "table"] [] := by
  obtain ⟨fd, F⟩ := T.m_Shelf_begin.fn
  obtain ⟨fdC, G_Copy___init__, b_Copy___init__⟩ := ok_cinit (P := P) (w := w) (base := base) T
  refine ⟨fd, F.ok scHb (fun vs H Q E h => ?_) (fun cdv Ar outer s H vs Q E hr h => ?_), F.binds fun _ _ _ _ _ _ us hl => match us, hl with | [_, _], _ => rfl⟩
  · obtain ⟨f, c, bg, cs, a, r, h, g, t, n, rfl, _⟩ := h
    rfl
  · obtain ⟨f, c, bg, cs, a, r, h, g, t, n, rfl, S, TA, few, naf, k⟩ := h
    have hu := hu_of hr
    refine ⟨_, (pss_cons (ps_set (i := 2) scHb.nd rfl (Or.inl rfl) (pe_fld (pv 0) rfl))
      (pss_cons (ps_fldaug (pv 0) pe_int in_add)
      (pss_cons (ps_dput hu (pe_fld (pv 0) rfl) (pv 2) (pe_make (E := E0) T.mk_Copy G_Copy___init__ (hr.mono (by first | decide | omega)) rfl T.c_Copy b_Copy___init__ .nil pass0 (pa_cons (pe_fld (pv 1) rfl) pa_nil)) rfl)
      (pss_one (ps_ret (pv 2)))))), ?_⟩
    obtain ⟨dx, ef⟩ := S.at_
    obtain ⟨dxa, ea⟩ := TA.at_
    have nfc : f ≠ c := ne_of ef S.dic (by intro z; cases z)
    refine ⟨_, rfl, f, A.c 28, dx, _, _, rfl, ef, T.cl_Shelf, T.n_Shelf_begun, l_begun .., ?_⟩
    refine ⟨_, rfl, f, A.c 28, dx, _, _, rfl, ef, T.cl_Shelf, T.n_Shelf_begun, l_begun .., _, _, rfl, rfl, dx, _, ef, by show 2 < 1000; decide, ?_⟩
    rw [show putF "begun" (V.int (bg + 1)) (hfl bg c) = hfl (bg + 1) c from rfl]
    have k1 : Kp (fun b => b = f) H (upd H f (.ins (A.c 28) dx (hfl (bg + 1) c))) := Kp.updI ef rfl
    have e1 : upd H f (.ins (A.c 28) dx (hfl (bg + 1) c)) f = some (.ins (A.c 28) dx (hfl (bg + 1) c)) := upd_same
    generalize upd H f (.ins (A.c 28) dx (hfl (bg + 1) c)) = H1 at k1 e1 ⊢
    refine ⟨_, rfl, a, A.c 44, dxa, _, _, rfl, k1.t.ins ea naf, T.cl_Table, T.n_Table_number, l_num .., ?_⟩
    refine fun cc dxc nc ndx nx => ⟨cc, dxc, t.num, rfl, upd_same, fun G wn as_ nwn nas nwa eG ewn eas kG => ⟨rfl, _, rfl, f, A.c 28, dx, hfl (bg + 1) c, .ref c, rfl, ?_⟩⟩
    have ncf : f ≠ cc := ne_of_none e1 nc
    have ec1 : H1 c = some (.dK (csK cs)) := k1.t.dK S.dic nfc.symm
    have k2 : Kp No H1 (upd (upd H1 dxc (.own cc)) cc (.ins (A.c 27) dxc [])) := (Kp.new ndx).trans (F' := No) (Kp.new (by rw [upd_ne nx.symm]; exact nc)) fun _ z => .inl z
    have e2 : upd (upd H1 dxc (.own cc)) cc (.ins (A.c 27) dxc []) cc = some (.ins (A.c 27) dxc []) := upd_same
    generalize upd (upd H1 dxc (.own cc)) cc (.ins (A.c 27) dxc []) = H2 at k2 e2 nwn nas kG ⊢
    have ec2 : H2 c = some (.dK (csK cs)) := k2.t.dK ec1 fun z => z
    have nccc : c ≠ cc := fun z => by rw [z, nc] at ec1; cases ec1
    have ecG : G c = some (.dK (csK cs)) := kG.t.dK ec2 nccc
    have ef2 : H2 f = some (.ins (A.c 28) dx (hfl (bg + 1) c)) := k2.t.ins e1 fun z => z
    have efG : G f = some (.ins (A.c 28) dx (hfl (bg + 1) c)) := kG.t.ins ef2 ncf
    refine ⟨efG, T.cl_Shelf, T.n_Shelf_copies, l_copies .., _, rfl, c, _, rfl, DPut.k (k := Sum.inl bg) ecG (szL (by rw [show (csK cs).length = cs.length from List.length_map ..]; omega)), ?_⟩
    have k4 : Kp (fun b => b = c) G (upd G c (.dK (putK (csK cs) (Sum.inl bg) (.ref cc)))) := Kp.updD ecG rfl
    have kA : Kp (fun b => b = f ∨ b = c) H (upd G c (.dK (putK (csK cs) (Sum.inl bg) (.ref cc)))) := by
      have h12 : Kp (fun b => b = f) H H2 := k1.trans k2 fun _ z => False.elim z
      have hc : H cc = none := k1.free nc fun z => absurd z ncf.symm
      have h3 : Kp (fun b => b = f) H G := h12.trans kG fun b z => .inr (by rw [show b = cc from z]; exact hc)
      exact (h3.sub fun _ z => .inl z).trans k4 fun _ z => .inl (.inr z)
    have hc : H cc = none := k1.free nc fun z => absurd z ncf.symm
    have hn : ∀ b, H2 b = none → b ≠ f → H b = none := fun b h n => (k1.trans k2 fun _ z => False.elim z).free h fun z => absurd z n
    have hw : H wn = none := hn wn nwn (fun z => by rw [z, ef2] at nwn; cases nwn)
    have ha : H as_ = none := hn as_ nas (fun z => by rw [z, ef2] at nas; cases nas)
    have nwc : wn ≠ c := fun z => by rw [z, ec2] at nwn; cases nwn
    have nac : as_ ≠ c := fun z => by rw [z, ec2] at nas; cases nas
    refine ⟨_, rfl, ?_⟩
    refine k _ ⟨bg, cc, wn, as_, t.num, keysFrom 0 9, t⟩ rfl rfl rfl rfl (fun b z => ?_) (S.add kA.t few ⟨⟨dxc, k4.t.ins eG nccc.symm⟩, k4.t.lst ewn nwc, (show (keysFrom 0 9).Nodup by decide), (show ∀ p ∈ keysFrom 0 9, 0 ≤ p ∧ p ≤ 8 by decide), [], k4.t.dK eas nac, ⟨[], rfl, .nil, fun _ z => by cases z⟩, fun p hp => .inl ⟨rfl, rfl⟩⟩ rfl (fun b z => ?_) ⟨dx, k4.t.ins efG nfc⟩ (by rw [upd_same, csK_put fun x hx e => by have := (S.bgs x hx).2; omega]; unfold csK; rw [List.map_append]; rfl)) kA
    · rcases z with z | z | z <;> rw [z] <;> assumption
    · rcases z with z | z | z <;> rw [z] <;> assumption
/-! ### find_copy, give_up, read_out -/
theorem scFc : FnScope ["self", "name"] ["self", "name"] (defScope s_Shelf_find_copy) := ⟨rfl, rfl, rfl, by decide +kernel, rfl, by decide +kernel, by decide +kernel⟩
def spFind (A : Ad) : Sp := fun vs H Q _ => ∃ (f c : Addr) (bg : Int) (cs : List Cp) (t : TT) (x : Cp), vs = [.ref f, .int x.nm] ∧ ShAt A H f c bg cs t ∧ x ∈ cs ∧ Q (.ref x.c) H
theorem ok_find_copy (T : Txt K mg A) : ∃ fd, FnOk P w K mg base CX0 2 (A.m 28 2) fd ["self", "name"] (spFind A) ∧ Binds K fd ["self", "name"] [] := by
  obtain ⟨fd, F⟩ := T.m_Shelf_find_copy.fn
  obtain ⟨fdW, Gwithin, bwithin⟩ := ok_within (P := P) (w := w) (base := base) T
  refine ⟨fd, F.ok scFc (fun vs H Q E h => ?_) (fun cdv Ar outer s H vs Q E hr h => ?_), F.binds fun _ _ _ _ _ _ us hl => match us, hl with | [_, _], _ => rfl⟩
  · obtain ⟨f, c, bg, cs, t, x, rfl, _⟩ := h
    rfl
  · obtain ⟨f, c, bg, cs, t, x, rfl, S, hx, k⟩ := h
    have hu := hu_of hr
    refine ⟨_, (pss_cons (ps_if (PW.pt (pw_or (pt_not (pt_val (pe_call Gwithin (hr.mono (by first | decide | omega)) rfl T.within.at_ T.within.kp bwithin .nil pass0 (pa_cons (pv 1) (pa_cons pe_int (pa_cons (pe_fld (pv 0) rfl) pa_nil)))))) (pw_or1 (pt_cmp (pc_dnotin hu (pv 1) (pe_fld (pv 0) rfl))))))
        (pss_one ps_never)
        pss_nil)
      (pss_one (ps_ret (pe_dget hu (pe_fld (pv 0) rfl) (pv 1) (fun _ _ => rfl))))), ?_⟩
    obtain ⟨dx, ef⟩ := S.at_
    have hb := S.bgs x hx
    refine ⟨_, rfl, _, rfl, f, A.c 28, dx, _, _, rfl, ef, T.cl_Shelf, T.n_Shelf_begun, l_begun .., _, _, _, rfl, .inl ⟨x.nm, rfl, _, rfl, ?_⟩⟩
    rw [show inB 0 bg x.nm = true by unfold inB; rw [decide_eq_true hb.1, decide_eq_true (show x.nm ≤ bg by omega)]; rfl]
    have dg : DGet H c (.int x.nm) (some (.ref x.c)) := by
      have := DGet.k (k := Sum.inl x.nm) S.dic
      rw [csK_some S.nms hx] at this
      exact this
    refine iteF ⟨_, rfl, _, rfl, f, A.c 28, dx, _, _, rfl, ef, T.cl_Shelf, T.n_Shelf_copies, l_copies .., c, _, rfl, dg, _, rfl, iteF ?_⟩
    exact ⟨_, rfl, f, A.c 28, dx, _, _, rfl, ef, T.cl_Shelf, T.n_Shelf_copies, l_copies .., _, rfl, c, _, rfl, dg, k⟩
theorem scGu : FnScope ["self", "name"] ["self", "name"] (defScope s_Shelf_give_up) := ⟨rfl, rfl, rfl, by decide +kernel, rfl, by decide +kernel, by decide +kernel⟩
/-- the copies but this one -/
def noC (cs : List Cp) (k : Int) : List Cp := cs.filter fun x => decide (x.nm ≠ k)
theorem noC_mem {cs : List Cp} {k : Int} {x : Cp} : x ∈ noC cs k ↔ x ∈ cs ∧ x.nm ≠ k := by
  unfold noC
  rw [List.mem_filter, decide_eq_true_iff]
theorem ShAt.del {H G : Hp} {f c : Addr} {bg : Int} {cs : List Cp} {t : TT} (S : ShAt A H f c bg cs t) {k : Int} (kt : Kt (fun b => b = c) H G) (ec : G c = some (.dK (csK (noC cs k)))) : ShAt A G f c bg (noC cs k) t := by
  obtain ⟨dx, ef⟩ := S.at_
  have m : ∀ {x}, x ∈ noC cs k → x ∈ cs := fun h => (noC_mem.mp h).1
  exact ⟨⟨dx, kt.ins ef S.nfc⟩, ec, fun x hx => (S.each x (m hx)).kt kt fun b z q => S.nc ⟨x, m hx, z ▸ q⟩, (List.filter_sublist.map _).nodup S.nms, fun x hx => S.bgs x (m hx), Nat.le_trans (List.length_filter_le _ _) S.few, fun x hx y hy => S.apart x (m hx) y (m hy), fun x hx => S.asc x (m hx), S.bg0⟩
def spGiveUp (A : Ad) : Sp := fun vs H Q _ => ∃ (f c : Addr) (bg : Int) (cs : List Cp) (t : TT) (x : Cp), vs = [.ref f, .int x.nm] ∧ ShAt A H f c bg cs t ∧ x ∈ cs ∧
  ∀ G, ShAt A G f c bg (noC cs x.nm) t → Kp (fun b => b = c) H G → Q .non G
theorem ok_give_up (T : Txt K mg A) : ∃ fd, FnOk P w K mg base CX0 3 (A.m 28 4) fd ["self", "name"] (spGiveUp A) ∧ Binds K fd ["self", "name"] [] := by
  obtain ⟨fd, F⟩ := T.m_Shelf_give_up.fn
  obtain ⟨fdF, G_Shelf_find_copy, b_Shelf_find_copy⟩ := ok_find_copy (P := P) (w := w) (base := base) T
  refine ⟨fd, F.ok scGu (fun vs H Q E h => ?_) (fun cdv Ar outer s H vs Q E hr h => ?_), F.binds fun _ _ _ _ _ _ us hl => match us, hl with | [_, _], _ => rfl⟩
  · obtain ⟨f, c, bg, cs, t, x, rfl, _⟩ := h
    rfl
  · obtain ⟨f, c, bg, cs, t, x, rfl, S, hx, k⟩ := h
    have hu := hu_of hr
    refine ⟨_, (pss_cons (ps_expr (pe_meth (pv 0) T.cl_Shelf T.m_Shelf_find_copy.me G_Shelf_find_copy (hr.mono (by first | decide | omega)) b_Shelf_find_copy .nil pass0 (pa_cons (pv 1) pa_nil)))
      (pss_one (ps_ddel (pe_fld (pv 0) rfl) (pv 1)))), ?_⟩
    obtain ⟨dx, ef⟩ := S.at_
    refine ⟨_, rfl, f, dx, _, rfl, ef, rfl, _, rfl, f, c, bg, cs, t, x, rfl, S, hx, ?_⟩
    refine ⟨_, rfl, f, A.c 28, dx, _, _, rfl, ef, T.cl_Shelf, T.n_Shelf_copies, l_copies .., _, rfl, c, csK cs, Sum.inl x.nm, rfl, S.dic, rfl, (by rw [csK_some S.nms hx]; rfl), ?_⟩
    rw [csK_drop]
    have k1 : Kp (fun b => b = c) H (upd H c (.dK (csK (noC cs x.nm)))) := Kp.updD S.dic rfl
    exact k _ (S.del k1.t upd_same) k1
/-! the copy that is read: a page less -/
/-- the copies, this one wanting a page less -/
def lessC (cs : List Cp) (k p : Int) : List Cp := cs.map fun x => if x.nm = k then x.less p else x
theorem lessC_mem {cs : List Cp} {k p : Int} {y : Cp} : y ∈ lessC cs k p ↔ ∃ z ∈ cs, y = if z.nm = k then z.less p else z := by
  unfold lessC
  rw [List.mem_map]
  exact ⟨fun ⟨z, h, e⟩ => ⟨z, h, e.symm⟩, fun ⟨z, h, e⟩ => ⟨z, h, e.symm⟩⟩
theorem less_nm (z : Cp) (k p : Int) : (if z.nm = k then z.less p else z).nm = z.nm := by by_cases h : z.nm = k <;> simp only [h, if_true, if_false] <;> first | rfl | exact h
theorem less_c (z : Cp) (k p : Int) : (if z.nm = k then z.less p else z).c = z.c := by by_cases h : z.nm = k <;> simp only [h, if_true, if_false] <;> rfl
theorem less_as (z : Cp) (k p : Int) : (if z.nm = k then z.less p else z).as_ = z.as_ := by by_cases h : z.nm = k <;> simp only [h, if_true, if_false] <;> rfl
theorem less_cF (z : Cp) (k p : Int) : cF (if z.nm = k then z.less p else z) = cF z := by by_cases h : z.nm = k <;> simp only [h, if_true, if_false] <;> rfl
theorem lessC_csK (cs : List Cp) (k p : Int) : csK (lessC cs k p) = csK cs := by
  unfold csK lessC
  rw [List.map_map]
  refine List.map_congr_left fun z _ => ?_
  show ((.inl (if z.nm = k then z.less p else z).nm : Key), V.ref (if z.nm = k then z.less p else z).c) = _
  rw [less_nm, less_c]
theorem lessC_nms (cs : List Cp) (k p : Int) : (lessC cs k p).map Cp.nm = cs.map Cp.nm := by
  unfold lessC
  rw [List.map_map]
  exact List.map_congr_left fun z _ => less_nm z k p
theorem noC_less (cs : List Cp) (k p : Int) : noC (lessC cs k p) k = noC cs k := by
  unfold noC lessC
  induction cs with
  | nil => rfl
  | cons z cs ih =>
    rw [List.map_cons, List.filter_cons, List.filter_cons, ih, less_nm]
    by_cases h : z.nm = k
    · rw [if_neg (by simp [h]), if_neg (by simp [h])]
    · rw [if_neg h]
theorem lessC_csF (cs : List Cp) (k p : Int) {b : Addr} : csF (lessC cs k p) b ↔ csF cs b := by
  refine ⟨fun ⟨y, hy, z⟩ => ?_, fun ⟨y, hy, z⟩ => ⟨_, lessC_mem.mpr ⟨y, hy, rfl⟩, by rw [less_cF]; exact z⟩⟩
  obtain ⟨y0, h0, rfl⟩ := lessC_mem.mp hy
  rw [less_cF] at z
  exact ⟨y0, h0, z⟩
theorem ShAt.less {H G : Hp} {f c : Addr} {bg : Int} {cs : List Cp} {t : TT} (S : ShAt A H f c bg cs t) {x : Cp} {p : Int} (hx : x ∈ cs) (C : CpAt A G (x.less p) t) (k : Kt (fun b => b = x.wn ∨ b = x.as_) H G) : ShAt A G f c bg (lessC cs x.nm p) t := by
  obtain ⟨dx, ef⟩ := S.at_
  have isF : ∀ b, b = x.wn ∨ b = x.as_ → cF x b := fun b z => .inr z
  have uniq : ∀ y ∈ cs, y.nm = x.nm → y = x := fun y hy e => by
    have h1 := csK_some S.nms hy
    rw [e, csK_some S.nms hx] at h1
    exact S.apart y hy x hx y.c (.inl rfl) (.inl (by injection (Option.some.inj h1) with h2; exact h2.symm))
  refine ⟨⟨dx, k.ins ef fun z => S.nf ⟨x, hx, isF _ z⟩⟩, by rw [lessC_csK]; exact k.dK S.dic fun z => S.nc ⟨x, hx, isF _ z⟩, fun y hy => ?_, by rw [lessC_nms]; exact S.nms, fun y hy => ?_, by unfold lessC; rw [List.length_map]; exact S.few, fun y hy z hz b h1 h2 => ?_, fun y hy => ?_, S.bg0⟩
  · obtain ⟨y0, h0, rfl⟩ := lessC_mem.mp hy
    by_cases e : y0.nm = x.nm
    · rw [if_pos e, uniq y0 h0 e]; exact C
    · rw [if_neg e]
      exact (S.each y0 h0).kt k fun b z q => e (by rw [S.apart y0 h0 x hx b q (isF b z)])
  · obtain ⟨y0, h0, rfl⟩ := lessC_mem.mp hy
    rw [less_nm]
    exact S.bgs y0 h0
  · obtain ⟨y0, h0, rfl⟩ := lessC_mem.mp hy
    obtain ⟨z0, h3, rfl⟩ := lessC_mem.mp hz
    rw [less_cF] at h1 h2
    rw [S.apart y0 h0 z0 h3 b h1 h2]
  · obtain ⟨y0, h0, rfl⟩ := lessC_mem.mp hy
    rw [less_as]
    exact S.asc y0 h0
theorem int_flat (l : List Int) : (l.map V.int).all flatV = true := by
  rw [List.all_eq_true]
  intro v hv
  obtain ⟨i, _, rfl⟩ := List.mem_map.mp hv
  rfl
theorem int_inV {l : List Int} {p : Int} : inV (.int p) (l.map V.int) = decide (p ∈ l) := by
  unfold inV
  rw [List.any_map]
  induction l with
  | nil => rfl
  | cons a l ih =>
    rw [List.any_cons, ih]
    show ((a == p) || _) = _
    by_cases h : a = p
    · subst h; simp
    · have h1 : (a == p) = false := by simpa using h
      have h2 : ¬ p = a := fun z => h z.symm
      rw [h1, Bool.false_or]
      simp [h2]
theorem scRo : FnScope ["self", "table", "name", "page", "found", "told"] ["self", "table", "name", "page"] (defScope s_Shelf_read_out) := ⟨rfl, rfl, rfl, by decide +kernel, rfl, by decide +kernel, by decide +kernel⟩
def spReadOut (A : Ad) (tp : Nat → Addr) : Sp := fun vs H Q _ => ∃ (f c : Addr) (bg : Int) (cs : List Cp) (a r h g : Addr) (t : TT) (n : Nat) (x : Cp) (p : Int), vs = [.ref f, .ref a, .int x.nm, .int p] ∧ ShAt A H f c bg cs t ∧ TabAt A H a r h g t n ∧ Tg (tL tp) H ∧ x ∈ cs ∧ p ∈ x.want ∧
  ∀ G v, StV G v (stOf x.t0 p) → ShAt A G f c bg (if x.want.erase p = [] then noC cs x.nm else lessC cs x.nm p) t → Kg (tL tp) (fun b => b = c ∨ csF cs b) H G → Q v G
theorem ok_read_out (T : Txt K mg A) (TB : TbsB base mg A tp) : ∃ fd, FnOk P w K mg base CX0 9 (A.m 28 3) fd ["self", "table", "name", "page"] (spReadOut A tp) ∧ Binds K fd ["self", "table", "name", "page"] [] := by
  obtain ⟨fd, F⟩ := T.m_Shelf_read_out.fn
  obtain ⟨fdW, Gwithin, bwithin⟩ := ok_within (P := P) (w := w) (base := base) T
  obtain ⟨fdF, G_Shelf_find_copy, b_Shelf_find_copy⟩ := ok_find_copy (P := P) (w := w) (base := base) T
  obtain ⟨fdU, G_Shelf_give_up, b_Shelf_give_up⟩ := ok_give_up (P := P) (w := w) (base := base) T
  obtain ⟨fdP, G_Copy_page_of, b_Copy_page_of⟩ := ok_page_of (P := P) (w := w) (base := base) T TB
  obtain ⟨fdL, G_Copy_let_go, b_Copy_let_go⟩ := ok_let_go (P := P) (w := w) (base := base) T
  refine ⟨fd, F.ok scRo (fun vs H Q E h => ?_) (fun cdv Ar outer s H vs Q E hr h => ?_), F.binds fun _ _ _ _ _ _ us hl => match us, hl with | [_, _, _, _], _ => rfl⟩
  · obtain ⟨f, c, bg, cs, a, r, h, g, t, n, x, p, rfl, _⟩ := h
    rfl
  · obtain ⟨f, c, bg, cs, a, r, h, g, t, n, x, p, rfl, S, TA, TG, hx, hp, k⟩ := h
    have hu := hu_of hr
    refine ⟨_, (pss_cons (ps_set (i := 4) scRo.nd rfl (Or.inl rfl) (pe_meth (pv 0) T.cl_Shelf T.m_Shelf_find_copy.me G_Shelf_find_copy (hr.mono (by first | decide | omega)) b_Shelf_find_copy .nil pass0 (pa_cons (pv 2) pa_nil)))
      (pss_cons (ps_if (PW.pt (pw_or (pt_not (pt_val (pe_call Gwithin (hr.mono (by first | decide | omega)) rfl T.within.at_ T.within.kp bwithin .nil pass0 (pa_cons (pv 3) (pa_cons pe_int (pa_cons (pe_op op_sub (pe_glob (v := .int 9) rfl T.k_PAGES.choose_spec ⟨_, rfl⟩) pe_int) pa_nil)))))) (pw_or1 (pt_cmpR op_notIn_seq (pv 3) (pe_fld (pv 4) rfl) rfl))))
        (pss_one ps_never)
        pss_nil)
      (pss_cons (ps_set (i := 5) scRo.nd rfl (Or.inl rfl) (pe_meth (pv 4) T.cl_Copy T.m_Copy_page_of.me G_Copy_page_of (hr.mono (by first | decide | omega)) b_Copy_page_of .nil pass0 (pa_cons (pv 1) (pa_cons (pv 3) pa_nil))))
      (pss_cons (ps_expr (pe_meth (pv 4) T.cl_Copy T.m_Copy_let_go.me G_Copy_let_go (hr.mono (by first | decide | omega)) b_Copy_let_go .nil pass0 (pa_cons (pv 3) pa_nil)))
      (pss_cons (ps_if (pt_not (pt_truth (pe_fld (pv 4) rfl) (by intro _; rfl)))
        (pss_one (ps_expr (pe_meth (pv 0) T.cl_Shelf T.m_Shelf_give_up.me G_Shelf_give_up (hr.mono (by first | decide | omega)) b_Shelf_give_up .nil pass0 (pa_cons (pv 2) pa_nil))))
        pss_nil)
      (pss_one (ps_ret (pv 5)))))))), ?_⟩
    obtain ⟨dx, ef⟩ := S.at_
    have C := S.each x hx
    obtain ⟨dxc, ec⟩ := C.at_
    obtain ⟨kvs, ea, hk, ho⟩ := C.asd
    obtain ⟨p0, p8⟩ := C.in9 p hp
    -- found = self.find_copy(name)
    refine ⟨_, rfl, f, dx, _, rfl, ef, rfl, _, rfl, f, c, bg, cs, t, x, rfl, S, hx, ?_⟩
    -- the test
    refine ⟨_, rfl, _, _, rfl, rfl, _, _, _, rfl, .inl ⟨p, rfl, _, rfl, ?_⟩⟩
    rw [show inB 0 (9 - 1) p = true by unfold inB; rw [decide_eq_true p0, decide_eq_true (show p ≤ 9 - 1 by omega)]; rfl]
    refine iteF ⟨_, rfl, _, rfl, x.c, A.c 27, dxc, _, _, rfl, ec, T.cl_Copy, T.n_Copy_wanted, l_cwan .., x.wn, _, rfl, .inl (SqL.of C.wan), rfl, int_flat _, ?_⟩
    rw [int_inV, decide_eq_true hp]
    refine ⟨_, rfl, iteF ?_⟩
    -- told = found.page_of(table, page)
    refine ⟨_, rfl, x.c, dxc, _, rfl, ec, rfl, _, rfl, _, rfl, x.c, x.wn, x.as_, dxc, x.num, kvs, a, r, h, g, t, n, p, stOf x.t0 p, rfl, ec, ea, ho p hp, TA, TG, p0, p8, fun G1 v k1 hv => ?_⟩
    have S1 := S.kt k1.t (fun z => z) (fun z => z) fun _ z => False.elim z
    have C1 := S1.each x hx
    obtain ⟨dxc1, ec1⟩ := C1.at_
    -- found.let_go(page)
    refine ⟨_, rfl, x.c, dxc1, _, rfl, ec1, rfl, _, rfl, x, t, p, rfl, C1, hp, fun G2 C2 k2 => ?_⟩
    have S2 := S1.less hx C2 k2.t
    have k12 : Kg (tL tp) (fun b => b = c ∨ csF cs b) H G2 := (k1.sub fun _ z => False.elim z).trans (Kg.of k2) fun b z => .inl (.inr ⟨x, hx, .inr z⟩)
    have hv2 := hv.kt k2.t
    obtain ⟨dxc2, ec2⟩ := C2.at_
    obtain ⟨dx2, ef2⟩ := S2.at_
    refine ⟨_, rfl, x.c, A.c 27, dxc2, _, _, rfl, ec2, T.cl_Copy, T.n_Copy_wanted, l_cwan .., _, .inl ⟨_, SqL.of C2.wan, rfl⟩, ?_⟩
    by_cases he : x.want.erase p = []
    · rw [show (!(((x.less p).want.map V.int).isEmpty)) = false by rw [show (x.less p).want = x.want.erase p from rfl, he]; rfl]
      have hm : x.less p ∈ lessC cs x.nm p := lessC_mem.mpr ⟨x, hx, by rw [if_pos rfl]⟩
      refine iteT ⟨_, rfl, f, dx2, _, rfl, ef2, rfl, _, rfl, f, c, bg, lessC cs x.nm p, t, x.less p, rfl, S2, hm, fun G3 S3 k3 => ⟨_, rfl, k G3 v (hv2.kt k3.t) ?_ (k12.trans (Kg.of k3) fun b z => .inl (.inl z))⟩⟩
      rw [if_pos he, ← noC_less cs x.nm p]
      exact S3
    · rw [show (!(((x.less p).want.map V.int).isEmpty)) = true by
        rw [show (x.less p).want = x.want.erase p from rfl]
        cases e : x.want.erase p with
        | nil => exact absurd e he
        | cons _ _ => rfl]
      refine iteF ⟨_, rfl, k G2 v hv2 ?_ k12⟩
      rw [if_neg he]
      exact S2
end
end S02

set_option Elab.async false
set_option linter.all false
set_option maxRecDepth 100000
set_option maxHeartbeats 4000000
/-! ### the shelf: what is listed, what is kept aside -/
namespace S02
open PySem PySem.Spec PyProof.Rows L2 K5 SupX GenX
/-- list(..) of a list or a tuple -/
def rLO (K : PySem.W.Frag) : List V → Hp → VK → Prop := fun xs H Q => ∃ p ys, xs = [.ref p] ∧ (SqL K H p ys ∨ SqT K H p ys) ∧ ∀ l, H l = none → Q (.ref l) (upd H l (.lst ys))
/-- a copy as it is listed -/
def LsV (H : Hp) (v : V) (x : Cp) : Prop := ∃ u l, v = .ref u ∧ H u = some (.tup [.int x.nm, .int x.num, .ref l]) ∧ H l = some (.lst (x.want.map V.int))
/-- the same, its list not the one at D -/
def LsD (D : Addr) (H : Hp) (v : V) (x : Cp) : Prop := ∃ u l, v = .ref u ∧ l ≠ D ∧ H u = some (.tup [.int x.nm, .int x.num, .ref l]) ∧ H l = some (.lst (x.want.map V.int))
theorem LsD.kt {D : Addr} {H G : Hp} (k : Kt (fun b => b = D) H G) {v : V} {x : Cp} (h : LsD D H v x) : LsD D G v x := by
  obtain ⟨u, l, e, n, h1, h2⟩ := h
  exact ⟨u, l, e, n, k.tup h1, k.lst h2 n⟩
theorem perm_lift {l m : List Int} (p : l.Perm m) : ∀ cs : List Cp, cs.map Cp.nm = m → ∃ yc : List Cp, yc.Perm cs ∧ yc.map Cp.nm = l := by
  induction p with
  | nil => intro cs e; exact ⟨cs, .refl _, e⟩
  | cons a p ih =>
    intro cs e
    cases cs with
    | nil => cases e
    | cons c cs =>
      obtain ⟨e1, e2⟩ := List.cons.inj e
      obtain ⟨yc, p2, e3⟩ := ih cs e2
      exact ⟨c :: yc, p2.cons c, by rw [List.map_cons, e1, e3]⟩
  | swap a b l =>
    intro cs e
    match cs, e with
    | c :: d :: cs, e =>
      obtain ⟨e1, e2⟩ := List.cons.inj e
      obtain ⟨e3, e4⟩ := List.cons.inj e2
      exact ⟨d :: c :: cs, .swap _ _ _, by rw [List.map_cons, List.map_cons, e1, e3, e4]⟩
  | trans p q ih1 ih2 =>
    intro cs e
    obtain ⟨y1, p1, e1⟩ := ih2 cs e
    obtain ⟨y2, p2, e2⟩ := ih1 y1 e1
    exact ⟨y2, p2.trans p1, e2⟩
section
variable {P : Program} {w : World} {K : PySem.W.Frag} {mg : Str → Option Value} {base : Heap} {A : Ad} {tp : Nat → Addr}
abbrev NscLs9 : List Str := ["self", "name"]
theorem scLs9 : FnScope NscLs9 ["self"] (defScope s_Shelf_listed) := ⟨rfl, rfl, rfl, by decide +kernel, rfl, by decide +kernel, by decide +kernel⟩
/-- the copies by their names -/
def byName (cs ys : List Cp) : Prop := ys.Perm cs ∧ ys.Pairwise fun a b => a.nm ≤ b.nm
def spListed (A : Ad) : Sp := fun vs H Q _ => ∃ (f c : Addr) (bg : Int) (cs : List Cp) (t : TT), vs = [.ref f] ∧ ShAt A H f c bg cs t ∧ cs.length < 64 ∧
  ∀ G b xs ys, byName cs ys → H b = none → Kp No H G → G b = some (.lst xs) → Paired (LsV G) xs ys → Q (.ref b) G
theorem ok_listed (T : Txt K mg A) : ∃ fd, FnOk P w K mg base CX0 1 (A.m 28 6) fd ["self"] (spListed A) ∧ Binds K fd ["self"] [] := by
  obtain ⟨fd, F⟩ := T.m_Shelf_listed.fn
  refine ⟨fd, F.ok scLs9 (fun vs H Q E h => ?_) (fun cdv Ar outer s0 H vs Q E hr h => ?_), F.binds fun _ _ _ _ _ _ us hl => match us, hl with | [_], _ => rfl⟩
  · obtain ⟨f, c, bg, cs, t, rfl, _⟩ := h
    rfl
  · obtain ⟨f, c, bg, cs, t, rfl, S, few, k⟩ := h
    have hu := hu_of hr
    refine ⟨_, pss_one (ps_ret (pe_lc (own := [("name", 1)]) (g := (gName 1)) (tt := tYes) (te := tTup (tCons (tVar 1) (tCons (tFld K (tDGet (tFld K (tVar 0) "copies") (tVar 1)) "number") (tCons (tCB (rLO K) (tCons (tFld K (tDGet (tFld K (tVar 0) "copies") (tVar 1)) "wanted") tNil)) tNil)))) (by rfl) scLs9.nd (pi_list (pe_callB (call_sortedDI (by rfl)) (by rfl) T.sorted (by decide +kernel) (pa_cons (pe_fld (pv 0) rfl) pa_nil))) (blkOk_by (N := NscLs9) (sc := defScope s_Shelf_listed) (by decide +kernel)) (fun _ _ _ _ _ => pg_name (i := 1) scLs9.nd rfl (Or.inl rfl)) (fun _ _ _ _ _ => pts_nil) (fun _ _ _ _ _ => by exact (pe_tup (pa_cons (pv 1) (pa_cons (pe_fld (pe_dget hu (pe_fld (pv 0) rfl) (pv 1) (fun _ _ => rfl)) rfl) (pa_cons (pe_callTy call_list_of (by rfl) T.list (by decide +kernel) (pa_cons (pe_fld (pe_dget hu (pe_fld (pv 0) rfl) (pv 1) (fun _ _ => rfl)) rfl) pa_nil)) pa_nil))))))), ?_⟩
    obtain ⟨dx, ef⟩ := S.at_
    refine ⟨_, rfl, f, A.c 28, dx, _, _, rfl, ef, T.cl_Shelf, T.n_Shelf_copies, l_copies .., c, csK cs, cs.map Cp.nm, rfl, .inl S.dic, by unfold csK; rw [List.map_map, List.map_map]; rfl, by rw [List.length_map]; exact few, fun ys q perm srt nq => ?_⟩
    obtain ⟨yc, pc, rfl⟩ := perm_lift perm cs rfl
    have hyl : yc.length < 64 := by rw [pc.length_eq]; exact few
    have kq : Kp No H (upd H q (.lst ((yc.map Cp.nm).map V.int))) := Kp.new nq
    have hq : upd H q (.lst ((yc.map Cp.nm).map V.int)) q = some (.lst ((yc.map Cp.nm).map V.int)) := upd_same
    generalize upd H q (.lst ((yc.map Cp.nm).map V.int)) = G1 at kq hq ⊢
    refine ⟨q, rfl, ⟨_, SqL.of hq⟩, fun D nD => ?_⟩
    have nDH : H D = none := kq.free nD fun z => False.elim z
    refine lc_list (K := K) (a := q) (xs := (yc.map Cp.nm).map V.int) (fun i J => Kp (fun b => b = D) G1 J ∧ ∃ acc, J D = some (.lst acc) ∧ acc.length ≤ i ∧ Paired (LsD D J) acc (yc.take i)) ⟨Kp.new nD, [], upd_same, Nat.le_refl _, by rw [List.take_zero]; exact .nil⟩ (fun i J _ ⟨kJ, _⟩ => SqL.of (kJ.t.lst hq (ne_of_none hq nD))) ?_ ?_
    · rintro i x J hx ⟨kJ, acc, hD, hal, pJ⟩
      obtain ⟨y, hy, rfl⟩ : ∃ y, yc[i]? = some y ∧ x = V.int y.nm := by
        rw [List.map_map, List.getElem?_map] at hx
        cases e : yc[i]? with
        | none => rw [e] at hx; cases hx
        | some y => rw [e] at hx; exact ⟨y, rfl, (Option.some.inj hx).symm⟩
      have hi : i < 64 := by
        have := (List.getElem?_eq_some_iff.mp hy).1
        omega
      have hm : y ∈ cs := pc.mem_iff.mp (List.mem_of_getElem? hy)
      have kHJ : Kp (fun b => b = D) H J := (kq.sub fun _ z => False.elim z).trans kJ fun b z => .inl z
      have SJ : ShAt A J f c bg cs t := S.kt kHJ.t (fun z => by rw [show f = D from z, nDH] at ef; cases ef) (fun z => by have := S.dic; rw [show c = D from z, nDH] at this; cases this) fun b z y => by
        obtain ⟨o, e⟩ := S.there y
        rw [show b = D from z, nDH] at e
        cases e
      obtain ⟨dxJ, efJ⟩ := SJ.at_
      have C := SJ.each y hm
      obtain ⟨dxc, ec⟩ := C.at_
      have dg : DGet J c (.int y.nm) (some (.ref y.c)) := by
        have := DGet.k (k := Sum.inl y.nm) SJ.dic
        rw [csK_some SJ.nms hm] at this
        exact this
      refine ⟨rfl, _, rfl, _, rfl, f, A.c 28, dxJ, _, _, rfl, efJ, T.cl_Shelf, T.n_Shelf_copies, l_copies .., _, rfl, c, _, rfl, dg, y.c, A.c 27, dxc, _, _, rfl, ec, T.cl_Copy, T.n_Copy_number, l_cnum .., _, rfl, f, A.c 28, dxJ, _, _, rfl, efJ, T.cl_Shelf, T.n_Shelf_copies, l_copies .., _, rfl, c, _, rfl, dg, y.c, A.c 27, dxc, _, _, rfl, ec, T.cl_Copy, T.n_Copy_wanted, l_cwan .., y.wn, _, rfl, .inl (SqL.of C.wan), fun l nl => ⟨sz 3 (by decide), fun u nu => ?_⟩⟩
      have k1 : Kp No J (upd (upd J l (.lst (y.want.map V.int))) u (.tup [.int y.nm, .int y.num, .ref l])) := (Kp.new nl).andN nu
      have nlD : l ≠ D := fun z => by rw [z, hD] at nl; cases nl
      have nul : u ≠ l := (upd_none nu).1
      have nuD : u ≠ D := fun z => by rw [z] at nu; rw [upd_ne nlD.symm, hD] at nu; cases nu
      have hD1 : upd (upd J l (.lst (y.want.map V.int))) u (.tup [.int y.nm, .int y.num, .ref l]) D = some (.lst acc) := k1.t.lst hD fun z => z
      have hu1 : upd (upd J l (.lst (y.want.map V.int))) u (.tup [.int y.nm, .int y.num, .ref l]) u = some (.tup [.int y.nm, .int y.num, .ref l]) := upd_same
      have hl1 : upd (upd J l (.lst (y.want.map V.int))) u (.tup [.int y.nm, .int y.num, .ref l]) l = some (.lst (y.want.map V.int)) := by rw [upd_ne nul.symm, upd_same]
      generalize upd (upd J l (.lst (y.want.map V.int))) u (.tup [.int y.nm, .int y.num, .ref l]) = J1 at k1 hD1 hu1 hl1 ⊢
      have k2 : Kp (fun b => b = D) J1 (upd J1 D (.lst (acc ++ [.ref u]))) := Kp.updL hD1 rfl
      refine ⟨acc, hD1, szL (by omega), (kJ.trans k1 fun _ z => False.elim z).trans k2 fun _ z => .inl z, _, upd_same, by rw [List.length_append]; simp only [List.length_cons, List.length_nil]; omega, ?_⟩
      rw [take_snoc hy]
      exact (pJ.mono fun _ _ z => (z.kt (k1.t.sub fun _ z => False.elim z)).kt k2.t).snoc ⟨u, l, rfl, nlD, k2.t.tup hu1, k2.t.lst hl1 nlD⟩
    · rintro J ⟨kJ, acc, hD, hal, pJ⟩
      rw [show (List.map V.int (List.map Cp.nm yc)).length = yc.length by rw [List.length_map, List.length_map], List.take_length] at pJ
      exact k J D acc yc ⟨pc, List.pairwise_map.mp srt⟩ nDH (kp_fresh ((kq.sub fun _ z => False.elim z).trans kJ fun b z => .inl z) fun b z => by rw [show b = D from z]; exact nDH) hD (pJ.mono fun _ _ ⟨u, l, e, _, h1, h2⟩ => ⟨u, l, e, h1, h2⟩)
end
end S02

set_option Elab.async false
set_option linter.all false
set_option maxRecDepth 100000
set_option maxHeartbeats 4000000
/-! a set comprehension whose first iterator is at its end from the start; len of a set -/
namespace SupX
open PySem PySem.Spec PyProof.Rows L2
/-- the set's size -/
theorem call_lenSO {X : Cx} : CallR X (.builtin "len") (fun xs H Q => ∃ (a : Addr) (S : Int → Bool) (n : Nat), xs = [.ref a] ∧ H a = some (SetO X.w a S n) ∧ Q (.int n) H) := by
  intro pins s σ H xs us Q I r h
  obtain ⟨a, S, n, rfl, ha, q⟩ := h
  obtain ⟨u, rfl, ru⟩ := vals1 r
  obtain rfl : u = Value.ref a := ru
  obtain ⟨o, es, ep, t, ho, hx, hd, _, _, _, hb, hf, hn, _⟩ := setO_get I ha
  refine call_len_set ho hx hd hf ?_ ⟨.int n, H, I.tok _, ⟨_, by rw [hn]⟩, q⟩
  have : (scanBound : Nat) ≤ 2 ^ 62 := by decide
  omega
section
variable {prog : Program} {w : World} {A : Around} {R : Result → Shared → Prop} {s : Shared} {env : Env}
/-- one look at the iterator: it is at its end -/
theorem setLoop_end {elt tgt iter : Expr} {ifs : List Expr} {rest : List Comprehension} {scope : Scope} {pos : Pos} {it acc : Value}
    (h : wpAny (model prog w) A (pyNext it) (fun r s1 => r = none ∧ R (.ok .next) s1) (notedBy (model prog w) A env fun e s' => R (.error e) s') s) :
    codeAny (model prog w) A (.compLoop (.SetComp elt (⟨tgt, iter, ifs, 0⟩ :: rest) scope pos) 0 it acc env) R s := by
  refine codeAny_loop rfl (fun _ s' => s' = s) (fun n s' e => ?_) 0 rfl
  subst e
  show wpAny _ A ((compTurn (.SetComp elt (⟨tgt, iter, ifs, 0⟩ :: rest) scope pos) 0 it acc env).onRaise (fun x => do noteFrame x env; theTreesLotGoes x)) _ _ s'
  refine wpAny_noted ?_
  show wpAny _ _ (standAt iter.pos >>= _) _ _ s'
  refine wpAny_bind (wpAny_standAt (wpAny_bind (wpAny_mono h (fun r s1 ⟨e, q⟩ => ?_) fun _ _ h' => h')))
  subst e
  exact wpAny_pure q
end
/-- {elt for tgt in iter ..}, nothing in iter -/
def tSetE (w : World) (wi : TI) : TE := fun σ H Q => wi σ H fun J H1 => ∀ D, H1 D = none → J.stop 0 (upd H1 D (SetO w D (fun _ => false) 0)) ∧ Q (.ref D) (upd H1 D (SetO w D (fun _ => false) 0))
theorem pe_setE {X : Cx} {elt tgt iter : Expr} {ifs : List Expr} {rest : List Comprehension} {scope : Scope} {own : List (Str × Nat)} {pos : Pos} {wi : TI} (hc : X.calm = true) (hN : X.N.Nodup) (hi : PI X tgt iter wi) (ok : BlkOk X.N X.env.scope scope own)
    (hs : ∀ x, foldedSetIterable iter X.env x = pure x := by intro _; rfl) : PE X (.SetComp elt (⟨tgt, iter, ifs, 0⟩ :: rest) scope pos) (tSetE X.w wi) := by
  refine ⟨fun pins s σ H Q I h => ?_⟩
  show wpAny _ _ (comprehension (.SetComp elt (⟨tgt, iter, ifs, 0⟩ :: rest) scope pos) scope X.env (firstIterPos (⟨tgt, iter, ifs, 0⟩ :: rest) pos) (newSet (.type "set")) false (eval iter X.env)) _ _ s
  have closed : ∀ y ∈ scope.names, y.2 = .free → ∃ c, X.env.cells.lookup y.1 = some c := fun y hy e => (ok.free y hy e).elim (fun z => I.ok.has _ (.inl z)) fun z => I.ok.has _ (.inr z)
  refine wpAny_comprehension_free (use := none) rfl hs (closure_ok closed) ok.kind (fun y hy e => by rw [ok.uniq y hy, e]) (thn (hi.run pins s σ H _ I h) fun xv s1 hx => thn hx fun itv s2 h2 => ?_)
  obtain ⟨it, fp, tn, J, H2, rfl, I2, T, st2, f2, q⟩ := h2
  refine PpSet.newSet_ok (newEnv_comp ?_)
  obtain ⟨stop, q⟩ := q s2.heap.objs.size (I2.hok.fresh (Nat.le_refl _))
  have ne : ∀ b ∈ fp, b ≠ s2.heap.objs.size := fun b hb => by
    obtain ⟨o, e, _⟩ := T.obj _ _ st2 b hb
    exact Nat.ne_of_lt (Heap.lt_size e)
  have push : ∀ b o, s2.heap.get? b = some o → (s2.heap.push { cls := .type "set", dict := none, data := .set #[] 0 (.fresh 0 0 (!X.w.params.followText "set-order")) }).get? b = some o := fun b o e => Heap.get?_push_of_some _ e
  have I3 : Inv X pins σ (upd H2 s2.heap.objs.size (SetO X.w s2.heap.objs.size (fun _ => false) 0)) { s2 with heap := s2.heap.push { cls := .type "set", dict := none, data := .set #[] 0 (.fresh 0 0 (!X.w.params.followText "set-order")) } } :=
    I2.laid (t' := s2.toks) push (Nat.le_refl _) (setO_new (setR_fresh X.w))
  have old : ∀ b ∈ fp, b < s2.heap.objs.size := fun b hb => by
    obtain ⟨o, e, _⟩ := T.obj _ _ st2 b hb
    exact Heap.lt_size e
  generalize hs3 : ({ s2 with heap := s2.heap.push { cls := .type "set", dict := none, data := .set #[] 0 (.fresh 0 0 (!X.w.params.followText "set-order")) } } : Shared) = s3 at I3 ⊢
  have st3 : tn 0 s3.heap := by rw [← hs3]; exact T.keep _ _ _ st2 fun b _ o e => push b o e
  have own3 : ∀ b ∈ fp, FpOk X pins (upd H2 s2.heap.objs.size (SetO X.w s2.heap.objs.size (fun _ => false) 0)) b ∧ b < s3.heap.objs.size := fun b hb =>
    ⟨⟨by rw [upd_ne (ne b hb)]; exact (f2 b hb).1, (f2 b hb).2⟩, by rw [← hs3, Heap.size_push]; exact Nat.lt_succ_of_lt (old b hb)⟩
  generalize s2.heap.objs.size = D at I3 stop q own3 ⊢
  generalize upd H2 D (SetO X.w D (fun _ => false) 0) = H3 at I3 stop q own3
  -- the block
  have I4 := block_start I3 ok hN own3
  generalize hs4 : ({ s3 with heap := pushCells (s3.heap.push { cls := .type "dict", data := .dict #[] }) scope.names } : Shared) = s4 at I4
  have st4 : tn 0 s4.heap := T.keep _ _ _ st3 fun b _ o e => by rw [← hs4]; exact pushCells_keeps _ _ _ _ (Heap.get?_push_of_some _ e)
  show codeAny _ _ (.compStart (.SetComp elt (⟨tgt, iter, ifs, 0⟩ :: rest) scope pos) 0 (.ref it) (.ref D) (compEnvC scope (cellsFrom (s3.heap.objs.size + 1) scope.names (cloFrom X.env.cells scope.names [])) s3.heap.objs.size X.env)) (compPost (model X.prog X.w) X.A X.xe none _ (.ref D) s3.heap.objs.size) s4
  generalize hce : compEnvC scope (cellsFrom (s3.heap.objs.size + 1) scope.names (cloFrom X.env.cells scope.names [])) s3.heap.objs.size X.env = ce at I4 ⊢
  have cL : ce.locals = s3.heap.objs.size := by subst hce; rfl
  have fps : ∀ b ∈ fp, FpOk (X.blk s3 H3 scope ce fp) [] H3 b := fun b hb => ⟨(own3 b hb).1.1, (I4.ok.exf b hb).1, I4.ok.exfs b hb, .inl hb, fun x c e => (I4.ok.exf b hb).2 x c e, fun p hp => absurd (show p ∈ ([] : List (Addr × Obj)) ++ [] from hp) (by simp)⟩
  have loop : codeAny (model X.prog X.w) X.A (.compLoop (.SetComp elt (⟨tgt, iter, ifs, 0⟩ :: rest) scope pos) 0 (.ref it) (.ref D) ce) (compPost (model X.prog X.w) X.A X.xe none (EP X pins σ Q) (.ref D) s3.heap.objs.size) s4 := by
    refine setLoop_end (thnF (T.done (X.blk s3 H3 scope ce fp) rfl rfl rfl hc 0 [] s4 _ H3 (fun _ _ => False) I4 fps st4 stop) fun r s6 ⟨e, I6⟩ => ⟨e, ?_⟩)
    have I7 : Inv X pins σ H3 s6 := I3.call' (ch := fp) I6.os I6.base I6.hok I6.bare fun b hb => ⟨(own3 b hb).1.2.2.2.1, (own3 b hb).1.2.1, (own3 b hb).1.2.2.2.2.1, (own3 b hb).1.2.2.2.2.2⟩
    have free : H3 s3.heap.objs.size = none := cL ▸ I6.free
    obtain ⟨m, hn, _⟩ := I6.loc
    have hn : s6.heap.Ns s3.heap.objs.size m := cL ▸ hn
    obtain ⟨f0, f1, f2, f3, f4, f5⟩ := I3.fpOk (Nat.le_refl _) free
    exact ⟨m, hn, fun h'' sb => ⟨.ref D, H3, I7.turned (t' := s6.toks) (fun b o hb e => (sb.2 b hb).trans e) f0 f1 f3 f4 f5, rfl, q⟩⟩
  exact PpSet.codeAny_compStart_set loop (T.self X.A 0 _ _ _ st4 loop)
end SupX

set_option Elab.async false
set_option linter.all false
set_option maxRecDepth 100000
set_option maxHeartbeats 4000000
/-! ### count_aside where no copy is open -/
namespace S02
open PySem PySem.Spec PyProof.Rows L2 K5 SupX GenX
section
variable {P : Program} {w : World} {K : PySem.W.Frag} {mg : Str → Option Value} {base : Heap} {A : Ad} {tp : Nat → Addr}
abbrev NscCa9 : List Str := ["self", "found", "pair"]
theorem scCa9 : FnScope NscCa9 ["self"] (defScope s_Shelf_count_aside) := ⟨rfl, rfl, rfl, by decide +kernel, rfl, by decide +kernel, by decide +kernel⟩
def spCount0 (A : Ad) : Sp := fun vs H Q _ => ∃ (f c : Addr) (bg : Int) (t : TT), vs = [.ref f] ∧ ShAt A H f c bg [] t ∧ ∀ G, Kp No H G → Q (.int 0) G
theorem ok_count0 (T : Txt K mg A) : ∃ fd, FnOk P w K mg base CX0 1 (A.m 28 7) fd ["self"] (spCount0 A) ∧ Binds K fd ["self"] [] := by
  obtain ⟨fd, F⟩ := T.m_Shelf_count_aside.fn
  refine ⟨fd, F.ok scCa9 (fun vs H Q E h => ?_) (fun cdv Ar outer s0 H vs Q E hr h => ?_), F.binds fun _ _ _ _ _ _ us hl => match us, hl with | [_], _ => rfl⟩
  · obtain ⟨f, c, bg, t, rfl, _⟩ := h
    rfl
  · obtain ⟨f, c, bg, t, rfl, S, k⟩ := h
    have hu := hu_of hr
    refine ⟨_, pss_one (ps_ret (pe_lock (pe_callB call_lenSO (by rfl) T.len (by decide +kernel) (pa_cons (pe_setE (own := [("found", 1), ("pair", 2)]) (by rfl) scCa9.nd (pi_values (pe_fld (pv 0) rfl)) (blkOk_by (N := NscCa9) (sc := defScope s_Shelf_count_aside) (by decide +kernel))) pa_nil)))), ?_⟩
    obtain ⟨dx, ef⟩ := S.at_
    have ec : H c = some (.dK []) := S.dic
    have nfc := S.nfc
    refine ⟨c, _, ec, trivial, fun od => ?_⟩
    have e1 : upd H c (.frz od (.dK [])) c = some (.frz od (.dK [])) := upd_same
    refine ⟨_, rfl, f, A.c 28, dx, _, _, rfl, (upd_ne nfc).trans ef, T.cl_Shelf, T.n_Shelf_copies, l_copies .., c, od, [], rfl, e1, fun D nD => ?_⟩
    have nDc : c ≠ D := ne_of_none e1 nD
    have e2 : ∀ o, upd (upd H c (.frz od (.dK []))) D o c = some (.frz od (.dK [])) := fun o => by rw [upd_ne nDc]; exact e1
    refine ⟨⟨e2 _, Nat.le_refl _⟩, D, _, 0, rfl, upd_same, e2 _, ?_⟩
    rw [upd_ne nDc.symm] at nD
    refine k _ fun b o e _ => ?_
    by_cases z : b = c
    · rw [z, ec] at e
      rw [z, upd_same]
      exact e
    · have y : b ≠ D := fun q => by rw [q, nD] at e; cases e
      rw [upd_ne z, upd_ne y, upd_ne z]
      exact e
end
end S02

set_option Elab.async false
set_option linter.all false
set_option maxRecDepth 100000
set_option maxHeartbeats 4000000
/-! ### the lead: copy, read_page, open_copies, room -/
namespace S02
open PySem PySem.Spec PyProof.Rows L2 K5 SupX GenX
/-- the lead with other copies -/
def La.sets (a : La) (bg : Int) (cs : List Cp) : La := ⟨a.st, a.d, a.ls, a.lu, a.r, a.tb, a.rw, a.hd, a.gn, a.en, a.sh, a.cp, a.fo, bg, cs⟩
theorem LeadAt.shelf {A : Ad} {K : PySem.W.Frag} {F : Addr → Prop} {H G : Hp} {l : Addr} {a : La} {t : TT} {n : Nat} {m : M} (L : LeadAt A K H l a t n m) (k : Kt F H G) (nf : ∀ b, F b → b = a.sh ∨ b = a.cp ∨ csF a.cs b) {bg : Int} {cs : List Cp} (S : ShAt A G a.sh a.cp bg cs t) (sub : ∀ b, csF cs b → csF a.cs b ∨ H b = none) : LeadAt A K G l (a.sets bg cs) t n m := by
  obtain ⟨dx, hs, e⟩ := L.at_
  obtain ⟨num, R⟩ := L.rt
  obtain ⟨es, ee, el⟩ := L.ent
  obtain ⟨dx4, e4⟩ := L.shf.at_
  have ec := L.shf.dic
  have h1 : ∀ b, F b → b ≠ l := fun b z y => by
    rcases nf b z with q | q | q
    · exact fld_ne e e4 (by intro z; cases z) (y.symm.trans q)
    · exact ne_of e ec (by intro z; cases z) (y.symm.trans q)
    · exact L.ap b q (.inl y)
  have h2 : ∀ b, F b → ¬ sF a.st a.d a.ls a.lu b := fun b z y => by
    rcases nf b z with q | q | q
    · exact sto_ins e4 (by intro _ _ _ z; cases z) (by intro _ _ _ _ _ _ z; cases z) L.sto (q ▸ y)
    · exact sto_dK ec L.sto (q ▸ y)
    · exact L.ap b q (.inr (.inl y))
  have h3 : ∀ b, F b → ¬ tF a.tb a.rw a.hd a.gn b := fun b z y => by
    rcases nf b z with q | q | q
    · exact tab_ins e4 (by intro _ _ _ _ z; cases z) L.tab (q ▸ y)
    · exact L.n3 (q ▸ y)
    · exact L.ap b q (.inr (.inr (.inl y)))
  have h4 : ∀ b, F b → b ≠ a.en := fun b z y => by
    rcases nf b z with q | q | q
    · exact ne_of ee e4 (by intro z; cases z) (y.symm.trans q)
    · exact ne_of ee ec (by intro z; cases z) (y.symm.trans q)
    · exact L.ap b q (.inr (.inr (.inr (.inl y))))
  exact ⟨⟨dx, hs, k.ins e fun z => h1 _ z rfl⟩, L.sto.kt k h2, ⟨num, R.kt k⟩, L.r0, L.tab.kt k h3, ⟨es, k.lst ee fun z => h4 _ z rfl, el⟩, S, L.n1, L.n2, L.n3, fun b z => (sub b z).elim (L.ap b) fun y q => by
    have q : lF0 l a b := q
    obtain ⟨o, e⟩ : ∃ o, H b = some o := L.there (by
      rcases q with q | q | q | q | q | q
      · exact .inl q
      · exact .inr (.inl q)
      · exact .inr (.inr (.inl q))
      · exact .inr (.inr (.inr (.inl q)))
      · exact .inr (.inr (.inr (.inr (.inl q))))
      · exact .inr (.inr (.inr (.inr (.inr (.inl q))))))
    rw [y] at e
    cases e⟩
section
variable {P : Program} {w : World} {K : PySem.W.Frag} {mg : Str → Option Value} {base : Heap} {A : Ad} {tp : Nat → Addr}
theorem scLcp9 : FnScope ["self"] ["self"] (defScope s_Lead_copy) := ⟨rfl, rfl, rfl, by decide +kernel, rfl, by decide +kernel, by decide +kernel⟩
def spCopy (A : Ad) (K : PySem.W.Frag) : Sp := fun vs H Q _ => ∃ (l : Addr) (a : La) (t : TT) (n : Nat) (m : M), vs = [.ref l] ∧ LeadAt A K H l a t n m ∧ a.cs.length + 1 ≤ 10000 ∧
  ∀ G b x, H b = none → x.nm = a.bg → x.num = t.num → x.t0 = t → x.want = keysFrom 0 9 → (∀ b, cF x b → H b = none) → LeadAt A K G l (a.sets (a.bg + 1) (a.cs ++ [x])) t n m → Kp (fun b => b = a.sh ∨ b = a.cp) H G → G b = some (.tup [.int a.bg, .int t.num]) → Q (.ref b) G
theorem ok_copy (T : Txt K mg A) : ∃ fd, FnOk P w K mg base CX0 4 (A.m 55 10) fd ["self"] (spCopy A K) ∧ Binds K fd ["self"] [] := by
  obtain ⟨fd, F⟩ := T.m_Lead_copy.fn
  obtain ⟨fdB, G_Shelf_begin, b_Shelf_begin⟩ := ok_begin (P := P) (w := w) (base := base) T
  refine ⟨fd, F.ok scLcp9 (fun vs H Q E h => ?_) (fun cdv Ar outer s H vs Q E hr h => ?_), F.binds fun _ _ _ _ _ _ us hl => match us, hl with | [_], _ => rfl⟩
  · obtain ⟨l, a, t, n, m, rfl, _⟩ := h
    rfl
  · obtain ⟨l, a, t, n, m, rfl, L, few, k⟩ := h
    refine ⟨_, (pss_one (ps_ret (pe_tup (pa_cons (pe_meth (pe_fld (pv 0) rfl) T.cl_Shelf T.m_Shelf_begin.me G_Shelf_begin (hr.mono (by first | decide | omega)) b_Shelf_begin .nil pass0 (pa_cons (pe_fld (pv 0) rfl) pa_nil)) (pa_cons (pe_fld (pe_fld (pv 0) rfl) rfl) pa_nil))))), ?_⟩
    obtain ⟨dx, hs, el⟩ := L.at_
    obtain ⟨dx4, e4⟩ := L.shf.at_
    obtain ⟨dxt, et⟩ := L.tab.at_
    have nts : a.tb ≠ a.sh := fld_ne et e4 (by intro z; cases z)
    refine ⟨_, rfl, l, A.c 55, dx, _, _, rfl, el, T.cl_Lead, T.n_Lead_shelf, l_shelf .., a.sh, dx4, _, rfl, e4, rfl, _, rfl, l, A.c 55, dx, _, _, rfl, el, T.cl_Lead, T.n_Lead_table, l_table .., a.sh, a.cp, a.bg, a.cs, a.tb, a.rw, a.hd, a.gn, t, n, rfl, L.shf, L.tab, few, nts, fun G x e1 e2 e3 e9 new S kG => ?_⟩
    have L1 := L.shelf kG.t (fun b z => z.elim .inl fun y => .inr (.inl y)) S fun b ⟨y, hy, z⟩ => by
      rcases List.mem_append.mp hy with q | q
      · exact .inl ⟨y, q, z⟩
      · rw [List.mem_singleton.mp q] at z
        exact .inr (new b z)
    obtain ⟨dxG, hsG, elG⟩ := L1.at_
    obtain ⟨dxt2, et2⟩ := L1.tab.at_
    refine ⟨_, rfl, l, A.c 55, dxG, _, _, rfl, elG, T.cl_Lead, T.n_Lead_table, l_table .., a.tb, A.c 44, dxt2, _, _, rfl, et2, T.cl_Table, T.n_Table_number, l_num .., sz 2 (by decide), fun b nb => ?_⟩
    have kb : Kp No G (upd G b (.tup [.int a.bg, .int t.num])) := Kp.new nb
    refine k _ b x (kG.free nb fun z => ?_) e1 e2 e3 e9 new (L1.kt kb.t fun _ z => False.elim z) (kG.trans kb fun _ z => False.elim z) upd_same
    obtain ⟨dx5, e5⟩ := S.at_
    rcases z with z | z
    · rw [z, e5] at nb; cases nb
    · rw [z, S.dic] at nb; cases nb
/-! ### read_page -/
theorem scLrp : FnScope ["self", "name", "page"] ["self", "name", "page"] (defScope s_Lead_read_page) := ⟨rfl, rfl, rfl, by decide +kernel, rfl, by decide +kernel, by decide +kernel⟩
/-- the copies behind the reading of a page -/
def readC (cs : List Cp) (x : Cp) (p : Int) : List Cp := if x.want.erase p = [] then noC cs x.nm else lessC cs x.nm p
theorem readC_csF {cs : List Cp} {x : Cp} {p : Int} {b : Addr} (h : csF (readC cs x p) b) : csF cs b := by
  unfold readC at h
  split at h
  · obtain ⟨y, hy, z⟩ := h
    exact ⟨y, (noC_mem.mp hy).1, z⟩
  · exact (lessC_csF _ _ _).mp h
def spReadPage (A : Ad) (K : PySem.W.Frag) (tp : Nat → Addr) : Sp := fun vs H Q _ => ∃ (l : Addr) (a : La) (t : TT) (n : Nat) (m : M) (x : Cp) (p : Int), vs = [.ref l, .int x.nm, .int p] ∧ LeadAt A K H l a t n m ∧ Tg (tL tp) H ∧ x ∈ a.cs ∧ p ∈ x.want ∧
  ∀ G v, StV G v (stOf x.t0 p) → LeadAt A K G l (a.sets a.bg (readC a.cs x p)) t n m → Kg (tL tp) (fun b => b = a.cp ∨ csF a.cs b) H G → Q v G
theorem ok_read_page (T : Txt K mg A) (TB : TbsB base mg A tp) : ∃ fd, FnOk P w K mg base CX0 10 (A.m 55 11) fd ["self", "name", "page"] (spReadPage A K tp) ∧ Binds K fd ["self", "name", "page"] [] := by
  obtain ⟨fd, F⟩ := T.m_Lead_read_page.fn
  obtain ⟨fdB, G_Shelf_read_out, b_Shelf_read_out⟩ := ok_read_out (P := P) (w := w) (base := base) T TB
  refine ⟨fd, F.ok scLrp (fun vs H Q E h => ?_) (fun cdv Ar outer s H vs Q E hr h => ?_), F.binds fun _ _ _ _ _ _ us hl => match us, hl with | [_, _, _], _ => rfl⟩
  · obtain ⟨l, a, t, n, m, x, p, rfl, _⟩ := h
    rfl
  · obtain ⟨l, a, t, n, m, x, p, rfl, L, TG, hx, hp, k⟩ := h
    refine ⟨_, (pss_one (ps_ret (pe_meth (pe_fld (pv 0) rfl) T.cl_Shelf T.m_Shelf_read_out.me G_Shelf_read_out (hr.mono (by first | decide | omega)) b_Shelf_read_out .nil pass0 (pa_cons (pe_fld (pv 0) rfl) (pa_cons (pv 1) (pa_cons (pv 2) pa_nil)))))), ?_⟩
    obtain ⟨dx, hs, el⟩ := L.at_
    obtain ⟨dx4, e4⟩ := L.shf.at_
    refine ⟨_, rfl, l, A.c 55, dx, _, _, rfl, el, T.cl_Lead, T.n_Lead_shelf, l_shelf .., a.sh, dx4, _, rfl, e4, rfl, _, rfl, l, A.c 55, dx, _, _, rfl, el, T.cl_Lead, T.n_Lead_table, l_table .., _, rfl, _, rfl, a.sh, a.cp, a.bg, a.cs, a.tb, a.rw, a.hd, a.gn, t, n, x, p, rfl, L.shf, L.tab, TG, hx, hp, fun G v hv S kG => ?_⟩
    exact k G v hv (L.shelf kG.t (fun b z => z.elim (fun y => .inr (.inl y)) fun y => .inr (.inr y)) S fun b z => .inl (readC_csF z)) kG
/-! ### open_copies, room -/
theorem scLop : FnScope ["self"] ["self"] (defScope s_Lead_open_copies) := ⟨rfl, rfl, rfl, by decide +kernel, rfl, by decide +kernel, by decide +kernel⟩
def spOpen (A : Ad) (K : PySem.W.Frag) : Sp := fun vs H Q _ => ∃ (l : Addr) (a : La) (t : TT) (n : Nat) (m : M), vs = [.ref l] ∧ LeadAt A K H l a t n m ∧ a.cs.length < 64 ∧
  ∀ G b xs ys, byName a.cs ys → H b = none → Kp No H G → G b = some (.lst xs) → Paired (LsV G) xs ys → Q (.ref b) G
theorem ok_open (T : Txt K mg A) : ∃ fd, FnOk P w K mg base CX0 2 (A.m 55 13) fd ["self"] (spOpen A K) ∧ Binds K fd ["self"] [] := by
  obtain ⟨fd, F⟩ := T.m_Lead_open_copies.fn
  obtain ⟨fdB, G_Shelf_listed, b_Shelf_listed⟩ := ok_listed (P := P) (w := w) (base := base) T
  refine ⟨fd, F.ok scLop (fun vs H Q E h => ?_) (fun cdv Ar outer s H vs Q E hr h => ?_), F.binds fun _ _ _ _ _ _ us hl => match us, hl with | [_], _ => rfl⟩
  · obtain ⟨l, a, t, n, m, rfl, _⟩ := h
    rfl
  · obtain ⟨l, a, t, n, m, rfl, L, few, k⟩ := h
    refine ⟨_, (pss_one (ps_ret (pe_meth0 (pe_fld (pv 0) rfl) T.cl_Shelf T.m_Shelf_listed.me G_Shelf_listed (hr.mono (by first | decide | omega)) b_Shelf_listed .nil pass0))), ?_⟩
    obtain ⟨dx, hs, el⟩ := L.at_
    obtain ⟨dx4, e4⟩ := L.shf.at_
    exact ⟨_, rfl, l, A.c 55, dx, _, _, rfl, el, T.cl_Lead, T.n_Lead_shelf, l_shelf .., a.sh, dx4, _, rfl, e4, rfl, a.sh, a.cp, a.bg, a.cs, t, rfl, L.shf, few, k⟩
theorem scLro : FnScope ["self"] ["self"] (defScope s_Lead_room) := ⟨rfl, rfl, rfl, by decide +kernel, rfl, by decide +kernel, by decide +kernel⟩
def spRoom0 (A : Ad) (K : PySem.W.Frag) : Sp := fun vs H Q _ => ∃ (l : Addr) (a : La) (t : TT) (n : Nat) (m : M), vs = [.ref l] ∧ LeadAt A K H l a t n m ∧ a.cs = [] ∧
  ∀ G b k, H b = none → Kp No H G → G b = some (.tup [.int 0, .int k]) → Q (.ref b) G
theorem ok_room0 (T : Txt K mg A) : ∃ fd, FnOk P w K mg base CX0 2 (A.m 55 14) fd ["self"] (spRoom0 A K) ∧ Binds K fd ["self"] [] := by
  obtain ⟨fd, F⟩ := T.m_Lead_room.fn
  obtain ⟨fdB, G_Shelf_count_aside, b_Shelf_count_aside⟩ := ok_count0 (P := P) (w := w) (base := base) T
  refine ⟨fd, F.ok scLro (fun vs H Q E h => ?_) (fun cdv Ar outer s H vs Q E hr h => ?_), F.binds fun _ _ _ _ _ _ us hl => match us, hl with | [_], _ => rfl⟩
  · obtain ⟨l, a, t, n, m, rfl, _⟩ := h
    rfl
  · obtain ⟨l, a, t, n, m, rfl, L, none, k⟩ := h
    refine ⟨_, (pss_one (ps_ret (pe_tup (pa_cons (pe_meth0 (pe_fld (pv 0) rfl) T.cl_Shelf T.m_Shelf_count_aside.me G_Shelf_count_aside (hr.mono (by first | decide | omega)) b_Shelf_count_aside .nil pass0) (pa_cons (pe_callB call_len_seq (by rfl) T.len PySem.boot_len (pa_cons (pe_fld (pv 0) rfl) pa_nil)) pa_nil))))), ?_⟩
    obtain ⟨dx, hs, el⟩ := L.at_
    obtain ⟨dx4, e4⟩ := L.shf.at_
    have S := L.shf
    rw [none] at S
    refine ⟨_, rfl, l, A.c 55, dx, _, _, rfl, el, T.cl_Lead, T.n_Lead_shelf, l_shelf .., a.sh, dx4, _, rfl, e4, rfl, a.sh, a.cp, a.bg, t, rfl, S, fun G kG => ?_⟩
    have L1 := L.kt kG.t fun _ z => False.elim z
    obtain ⟨dxG, hsG, elG⟩ := L1.at_
    obtain ⟨es, ee, _⟩ := L1.ent
    refine ⟨_, rfl, l, A.c 55, dxG, _, _, rfl, elG, T.cl_Lead, T.n_Lead_entries, l_entries .., a.en, es, rfl, .inl (SqL.of ee), sz 2 (by decide), fun b nb => ?_⟩
    exact k _ b es.length (kG.free nb fun z => False.elim z) (kG.trans (Kp.new (F := No) nb) fun _ z => False.elim z) upd_same
end
end S02

set_option Elab.async false
set_option linter.all false
set_option maxRecDepth 100000
set_option maxHeartbeats 4000000
/-! ### joined -/
namespace S02
open PySem PySem.Spec PyProof.Rows L2 K5 SupX GenX
section
variable {P : Program} {w : World} {K : PySem.W.Frag} {mg : Str → Option Value} {base : Heap} {A : Ad} {tp : Nat → Addr}
/-- all pages are there, as the table tells them -/
def PgsAt (H : Hp) (g : Addr) (t : TT) : Prop := ∃ kvs, H g = some (.dK kvs) ∧ ∀ p : Int, 0 ≤ p → p ≤ 8 → ∃ v, valV kvs (.inl p : Key) = some v ∧ StV H v (stOf t p)
theorem PgsAt.kt {F : Addr → Prop} {H G : Hp} (k : Kt F H G) {g : Addr} {t : TT} (n : ¬ F g) (h : PgsAt H g t) : PgsAt G g t := by
  obtain ⟨kvs, e, q⟩ := h
  exact ⟨kvs, k.dK e n, fun p h0 h8 => let ⟨v, e, r⟩ := q p h0 h8; ⟨v, e, r.kt k⟩⟩
theorem PgsAt.get {H : Hp} {g : Addr} {t : TT} (h : PgsAt H g t) {p : Int} (h0 : 0 ≤ p) (h8 : p ≤ 8) : ∃ v, DGet H g (.int p) (some v) ∧ StV H v (stOf t p) := by
  obtain ⟨kvs, e, q⟩ := h
  obtain ⟨v, e2, r⟩ := q p h0 h8
  refine ⟨v, ?_, r⟩
  have := DGet.k (k := Sum.inl p) e
  rw [e2] at this
  exact this
theorem scJo : FnScope ["_law_pages", "_law_rows", "_law_page_here"] ["_law_pages"] (defScope s_joined) := ⟨rfl, rfl, rfl, by decide +kernel, rfl, by decide +kernel, by decide +kernel⟩
def spJoined : Sp := fun vs H Q _ => ∃ (g : Addr) (t : TT), vs = [.ref g] ∧ PgsAt H g t ∧
  ∀ G b l1 l2 xs zs, Kp No H G → G b = some (.tup [.int t.mom, .ref l1, .ref l2]) → G l1 = some (.lst xs) → Paired (RwV G) xs (whRows t 8) → G l2 = some (.lst zs) → Paired (RhV G) zs (hnRows t.hands) → Q (.ref b) G
theorem ok_joined (T : Txt K mg A) : ∃ fd, FnOk P w K mg base CX0 1 (A.d 77) fd ["_law_pages"] spJoined ∧ Binds K fd ["_law_pages"] [] := by
  obtain ⟨fd, F⟩ := T.joined.fn
  refine ⟨fd, F.ok scJo (fun vs H Q E h => ?_) (fun cdv Ar outer s0 H vs Q E hr h => ?_), F.binds fun _ _ _ _ _ _ us hl => match us, hl with | [_], _ => rfl⟩
  · obtain ⟨g, t, rfl, _⟩ := h
    rfl
  · obtain ⟨g, t, rfl, Pg, k⟩ := h
    have hu := hu_of hr
    refine ⟨_, (pss_cons (ps_set (i := 1) scJo.nd rfl (Or.inl rfl) (pe_lst pa_nil))
      (pss_cons (ps_for PassesOwn.never rfl (pi_range1 (by rfl) T.range (pa_cons pe_int pa_nil)) (pg_name (i := 2) scJo.nd rfl (Or.inl rfl))
        (pss_one (ps_expr (pe_bm PySem.F.plainAttrs_list PySem.F.slot_list_extend PySem.F.type_list_extend mt_extend (pv 1) (pa_cons (pe_callTy call_list_of (by rfl) T.list (by decide +kernel) (pa_cons (pe_dget hu (pv 0) (pv 2) (fun _ _ => rfl)) pa_nil)) pa_nil)))))
      (pss_one (ps_ret (pe_tup (pa_cons (pe_ix ix_tup (pe_dget hu (pv 0) pe_int (fun _ _ => rfl)) pe_int (fun _ _ => rfl)) (pa_cons (pv 1) (pa_cons (pe_callTy call_list_of (by rfl) T.list (by decide +kernel) (pa_cons (pe_ix ix_tup (pe_dget hu (pv 0) pe_int (fun _ _ => rfl)) pe_int (fun _ _ => rfl)) pa_nil)) pa_nil)))))))), ?_⟩
    refine ⟨sz 0 (by decide), fun D nD => ?_⟩
    have kD : Kp No H (upd H D (.lst [])) := Kp.new nD
    have eD : upd H D (.lst []) D = some (.lst []) := upd_same
    have Pg0 := Pg
    obtain ⟨kvs, eg, _⟩ := Pg0
    have ngD : g ≠ D := ne_of_none eg nD
    generalize upd H D (.lst []) = G0 at kD eD ⊢
    refine ⟨8, rfl, by decide, by decide, for_range (lo := 0) (n := (8 : Int).toNat) (fun i σ J => ∃ o, σ = [some (.ref g), some (.ref D), o] ∧ Kp (fun b => b = D) G0 J ∧ ∃ xs, J D = some (.lst xs) ∧ xs.length ≤ 4 * i ∧ Paired (RwV J) xs (whRows t i)) ⟨_, rfl, Kp.refl _ _, [], eD, Nat.le_refl _, .nil⟩ ?_ ?_⟩
    · rintro i σ J hi ⟨o, rfl, kJ, xs, hD, hl, pJ⟩
      have hi8 : i < 8 := by simpa using hi
      have PJ := (Pg.kt kD.t (fun z => z)).kt kJ.t ngD
      obtain ⟨v, dg, hv⟩ := PJ.get (p := 0 + (i : Nat)) (by omega) (by omega)
      rw [Int.zero_add] at hv
      have hv' : StV J v (.rows ((pgRows t.rows i).filter (shF t.mom))) := by
        unfold stOf at hv
        rw [if_neg (by omega)] at hv
        exact hv
      obtain ⟨c, rfl, zs, hc, pc⟩ := hv'
      have zl : zs.length ≤ 4 := by rw [pc.length]; exact Nat.le_trans (List.length_filter_le _ _) (pg_len _ _)
      refine ⟨_, rfl, .inl ⟨rfl, _, SqL.of hD⟩, _, rfl, _, rfl, g, _, rfl, dg, c, zs, rfl, .inr (SqT.of hc), fun q nq => ?_⟩
      have kq : Kp No J (upd J q (.lst zs)) := Kp.new nq
      have hq : upd J q (.lst zs) q = some (.lst zs) := upd_same
      have hD2 : upd J q (.lst zs) D = some (.lst xs) := kq.t.lst hD fun z => z
      generalize upd J q (.lst zs) = J2 at kq hq hD2 ⊢
      refine ⟨D, q, xs, zs, rfl, rfl, hD2, hq, sz _ (by omega), ?_⟩
      have k3 : Kp (fun b => b = D) J2 (upd J2 D (.lst (xs ++ zs))) := Kp.updL hD2 rfl
      have kJ3 : Kp (fun b => b = D) J (upd J2 D (.lst (xs ++ zs))) := (kq.sub fun _ z => False.elim z).trans k3 fun _ z => .inl z
      refine ⟨_, rfl, kJ.trans kJ3 fun _ z => .inl z, _, upd_same, by rw [List.length_append]; omega, ?_⟩
      rw [whRows_succ]
      exact paired_app (pJ.mono fun _ _ z => z.kt kJ3.t) (pc.mono fun _ _ z => z.kt kJ3.t)
    · rintro σ J ⟨o, rfl, kJ, xs, hD, hl, pJ⟩
      have PJ := (Pg.kt kD.t (fun z => z)).kt kJ.t ngD
      obtain ⟨v, dg, hv⟩ := PJ.get (p := 8) (by decide) (by decide)
      have hv' : StV J v (.hands t.mom (hnRows t.hands)) := by
        unfold stOf at hv
        rw [if_pos rfl] at hv
        exact hv
      obtain ⟨b8, c8, rfl, h8, zs, hz, pz⟩ := hv'
      refine ⟨_, rfl, g, _, rfl, dg, b8, _, 0, .int t.mom, rfl, rfl, SqT.of h8, rfl, _, rfl, _, rfl, g, _, rfl, dg, b8, _, 1, .ref c8, rfl, rfl, SqT.of h8, rfl, c8, zs, rfl, .inr (SqT.of hz), fun q nq => ⟨sz 3 (by decide), fun b nb => ?_⟩⟩
      have k1 : Kp No J (upd (upd J q (.lst zs)) b (.tup [.int t.mom, .ref D, .ref q])) := (Kp.new nq).andN nb
      have nbq : b ≠ q := (upd_none nb).1
      refine k _ b D q xs zs ?_ upd_same (k1.t.lst hD fun z => z) (pJ.mono fun _ _ z => z.kt k1.t) (by rw [upd_ne nbq.symm, upd_same]) (pz.mono fun _ _ z => z.kt k1.t)
      exact (kp_fresh ((kD.sub (F' := fun b => b = D) fun _ z => False.elim z).trans kJ fun b z => .inl z) fun b z => by rw [show b = D from z]; exact nD).trans k1 fun _ z => False.elim z
end
end S02

set_option Elab.async false
set_option linter.all false
set_option maxRecDepth 100000
set_option maxHeartbeats 4000000
/-! ### the law's copies -/
namespace S02
open PySem PySem.Spec PyProof.Rows L2 K5 SupX GenX
/-- a copy as the law keeps it: what was whole, and the pages that were read -/
structure Lc where
  x : Cp
  u : Addr
  wh : Addr
  pg : Addr
  l1 : Addr
  l2 : Addr
def wK (ws : List Lc) : List (Key × V) := ws.map fun w => ((.inl w.x.nm : Key), V.ref w.u)
/-- what may be written of it -/
def wF (w : Lc) : Addr → Prop := fun b => b = w.pg ∨ b = w.l1 ∨ b = w.l2
/-- pages that were read -/
def KsAt (kvs : List (Key × V)) : Prop := ∃ ks : List Int, kvs.map (·.1) = ks.map Sum.inl ∧ ks.Nodup ∧ ∀ k ∈ ks, 0 ≤ k ∧ k ≤ 8
def PvAt (H : Hp) (kvs : List (Key × V)) (want : List Int) (t0 : TT) : Prop := ∀ p : Int, 0 ≤ p → p ≤ 8 → (p ∈ want → valV kvs (.inl p : Key) = none) ∧ (p ∉ want → ∃ v, valV kvs (.inl p : Key) = some v ∧ StV H v (stOf t0 p))
theorem PvAt.kt {F : Addr → Prop} {H G : Hp} (k : Kt F H G) {kvs : List (Key × V)} {want : List Int} {t0 : TT} (h : PvAt H kvs want t0) : PvAt G kvs want t0 := fun p h0 h8 => ⟨(h p h0 h8).1, fun n => let ⟨v, e, q⟩ := (h p h0 h8).2 n; ⟨v, e, q.kt k⟩⟩
structure WcAt (H : Hp) (w : Lc) : Prop where
  u_ : H w.u = some (.tup [.ref w.wh, .ref w.pg])
  wh_ : H w.wh = some (.tup [.int w.x.t0.mom, .ref w.l1, .ref w.l2])
  l1_ : ∃ xs, H w.l1 = some (.lst xs) ∧ Paired (RwV H) xs (whRows w.x.t0 8)
  l2_ : ∃ zs, H w.l2 = some (.lst zs) ∧ Paired (RhV H) zs (hnRows w.x.t0.hands)
  pg_ : ∃ kvs, H w.pg = some (.dK kvs) ∧ KsAt kvs ∧ PvAt H kvs w.x.want w.x.t0
  ne : w.x.want ≠ []
theorem WcAt.kt {F : Addr → Prop} {H G : Hp} (k : Kt F H G) {w : Lc} (n : ∀ b, F b → ¬ wF w b) (h : WcAt H w) : WcAt G w := by
  obtain ⟨xs, e1, p1⟩ := h.l1_
  obtain ⟨zs, e2, p2⟩ := h.l2_
  obtain ⟨kvs, e3, p3, p4⟩ := h.pg_
  exact ⟨k.tup h.u_, k.tup h.wh_, ⟨xs, k.lst e1 fun z => n _ z (.inr (.inl rfl)), p1.mono fun _ _ z => z.kt k⟩, ⟨zs, k.lst e2 fun z => n _ z (.inr (.inr rfl)), p2.mono fun _ _ z => z.kt k⟩, ⟨kvs, k.dK e3 fun z => n _ z (.inl rfl), p3, p4.kt k⟩, h.ne⟩
theorem WcAt.there {H : Hp} {w : Lc} (h : WcAt H w) {b : Addr} (z : wF w b) : ∃ o, H b = some o := by
  obtain ⟨xs, e1, p1⟩ := h.l1_
  obtain ⟨zs, e2, p2⟩ := h.l2_
  obtain ⟨kvs, e3, p3, p4⟩ := h.pg_
  rcases z with z | z | z <;> rw [z]
  · exact ⟨_, e3⟩
  · exact ⟨_, e1⟩
  · exact ⟨_, e2⟩
/-- the law's copies; L: what others may write -/
structure CwAt (H : Hp) (cs : List Cp) (L : Addr → Prop) (cd : Addr) (ws : List Lc) : Prop where
  xs : ws.map Lc.x = cs
  dic : H cd = some (.dK (wK ws))
  each : ∀ w ∈ ws, WcAt H w
  nms : (ws.map fun w => w.x.nm).Nodup
  nl : ∀ w ∈ ws, ∀ b, wF w b → ¬ L b
  ncd : ¬ L cd
  pgs : ∀ w ∈ ws, ∀ y ∈ ws, w.pg = y.pg → w = y
  pcd : ∀ w ∈ ws, w.pg ≠ cd
section
variable {H G : Hp} {cs : List Cp} {L : Addr → Prop} {cd : Addr} {ws : List Lc}
theorem CwAt.kt {F : Addr → Prop} (k : Kt F H G) (sub : ∀ b, F b → L b) (C : CwAt H cs L cd ws) : CwAt G cs L cd ws :=
  ⟨C.xs, k.dK C.dic fun z => C.ncd (sub _ z), fun w hw => (C.each w hw).kt k fun b z y => C.nl w hw b y (sub b z), C.nms, C.nl, C.ncd, C.pgs, C.pcd⟩
theorem CwAt.lim {L' : Addr → Prop} (C : CwAt H cs L cd ws) (h : ∀ b, L' b → L b ∨ H b = none) : CwAt H cs L' cd ws := by
  refine ⟨C.xs, C.dic, C.each, C.nms, fun w hw b z y => ?_, fun y => ?_, C.pgs, C.pcd⟩
  · rcases h b y with q | q
    · exact C.nl w hw b z q
    · obtain ⟨o, e⟩ := (C.each w hw).there z
      rw [q] at e; cases e
  · rcases h _ y with q | q
    · exact C.ncd q
    · rw [C.dic] at q; cases q
theorem wK_some : ∀ {ws : List Lc} {x : Lc}, (ws.map fun w => w.x.nm).Nodup → x ∈ ws → valV (wK ws) (.inl x.x.nm : Key) = some (.ref x.u)
  | [], _, _, h => by cases h
  | y :: cs, x, nd, h => by
    obtain ⟨n1, nd2⟩ := List.nodup_cons.mp nd
    show valV (((.inl y.x.nm : Key), V.ref y.u) :: wK cs) (.inl x.x.nm : Key) = _
    rw [valV_cons]
    rcases List.mem_cons.mp h with e | e
    · rw [e, if_pos rfl]
    · have ne : y.x.nm ≠ x.x.nm := fun z => n1 (by show y.x.nm ∈ _; rw [z]; exact List.mem_map.mpr ⟨x, e, rfl⟩)
      rw [if_neg (fun z => ne (Sum.inl.inj z))]
      exact wK_some nd2 e
theorem CwAt.get (C : CwAt H cs L cd ws) {x : Lc} (hx : x ∈ ws) : DGet H cd (.int x.x.nm) (some (.ref x.u)) := by
  have := DGet.k (k := Sum.inl x.x.nm) C.dic
  rw [wK_some C.nms hx] at this
  exact this
/-- a copy is closed -/
def noW (ws : List Lc) (k : Int) : List Lc := ws.filter fun w => decide (w.x.nm ≠ k)
theorem noW_mem {k : Int} {y : Lc} : y ∈ noW ws k ↔ y ∈ ws ∧ y.x.nm ≠ k := by
  unfold noW
  rw [List.mem_filter, decide_eq_true_iff]
theorem wK_drop (ws : List Lc) (k : Int) : dropK (wK ws) (.inl k : Key) = wK (noW ws k) := by
  unfold wK noW dropK
  induction ws with
  | nil => rfl
  | cons y ws ih =>
    rw [List.map_cons, List.filter_cons, List.filter_cons, ih]
    by_cases h : y.x.nm = k
    · rw [if_neg (by simp [h]), if_neg (by simp [h])]
    · rw [if_pos (by simp [h]), if_pos (by simp [h]), List.map_cons]
theorem noW_xs (ws : List Lc) (k : Int) : (noW ws k).map Lc.x = noC (ws.map Lc.x) k := by
  unfold noW noC
  induction ws with
  | nil => rfl
  | cons y ws ih =>
    rw [List.map_cons, List.filter_cons, List.filter_cons]
    by_cases h : y.x.nm = k
    · rw [if_neg (by simp [h]), if_neg (by simp [h]), ih]
    · rw [if_pos (by simp [h]), if_pos (by simp [h]), List.map_cons, ih]
/-- of a copy a page is read -/
def Lc.less (w : Lc) (p : Int) : Lc := ⟨w.x.less p, w.u, w.wh, w.pg, w.l1, w.l2⟩
def lessW (ws : List Lc) (k p : Int) : List Lc := ws.map fun w => if w.x.nm = k then w.less p else w
theorem lessW_mem {k p : Int} {y : Lc} : y ∈ lessW ws k p ↔ ∃ z ∈ ws, y = if z.x.nm = k then z.less p else z := by
  unfold lessW
  rw [List.mem_map]
  exact ⟨fun ⟨z, h, e⟩ => ⟨z, h, e.symm⟩, fun ⟨z, h, e⟩ => ⟨z, h, e.symm⟩⟩
theorem lessw_x (z : Lc) (k p : Int) : (if z.x.nm = k then z.less p else z).x = if z.x.nm = k then z.x.less p else z.x := by by_cases h : z.x.nm = k <;> simp only [h, if_true, if_false] <;> rfl
theorem lessw_nm (z : Lc) (k p : Int) : (if z.x.nm = k then z.less p else z).x.nm = z.x.nm := by rw [lessw_x, less_nm]
theorem lessw_u (z : Lc) (k p : Int) : (if z.x.nm = k then z.less p else z).u = z.u := by by_cases h : z.x.nm = k <;> simp only [h, if_true, if_false] <;> rfl
theorem lessw_pg (z : Lc) (k p : Int) : (if z.x.nm = k then z.less p else z).pg = z.pg := by by_cases h : z.x.nm = k <;> simp only [h, if_true, if_false] <;> rfl
theorem lessw_wF (z : Lc) (k p : Int) : wF (if z.x.nm = k then z.less p else z) = wF z := by by_cases h : z.x.nm = k <;> simp only [h, if_true, if_false] <;> rfl
theorem lessW_xs (ws : List Lc) (k p : Int) : (lessW ws k p).map Lc.x = lessC (ws.map Lc.x) k p := by
  unfold lessW lessC
  rw [List.map_map, List.map_map]
  exact List.map_congr_left fun z _ => lessw_x z k p
theorem lessW_wK (ws : List Lc) (k p : Int) : wK (lessW ws k p) = wK ws := by
  unfold wK lessW
  rw [List.map_map]
  refine List.map_congr_left fun z _ => ?_
  show ((.inl (if z.x.nm = k then z.less p else z).x.nm : Key), V.ref (if z.x.nm = k then z.less p else z).u) = _
  rw [lessw_nm, lessw_u]
theorem lessW_nms (ws : List Lc) (k p : Int) : ((lessW ws k p).map fun w => w.x.nm) = ws.map fun w => w.x.nm := by
  unfold lessW
  rw [List.map_map]
  exact List.map_congr_left fun z _ => lessw_nm z k p
end
/-- how many pages are wanted -/
def wsum : List Lc → Nat
  | [] => 0
  | w :: ws => w.x.want.length + wsum ws
theorem wsum_lessW_le (k p : Int) : ∀ ws : List Lc, wsum (lessW ws k p) ≤ wsum ws
  | [] => Nat.le_refl _
  | y :: ws => by
    have := wsum_lessW_le k p ws
    show (if y.x.nm = k then y.less p else y).x.want.length + wsum (lessW ws k p) ≤ y.x.want.length + wsum ws
    have h : (if y.x.nm = k then y.less p else y).x.want.length ≤ y.x.want.length := by
      rw [lessw_x]
      split
      · exact List.length_erase_le
      · exact Nat.le_refl _
    omega
theorem wsum_lessW {k p : Int} {x : Lc} : ∀ {ws : List Lc}, x ∈ ws → x.x.nm = k → p ∈ x.x.want → wsum (lessW ws k p) < wsum ws
  | [], h, _, _ => by cases h
  | y :: ws, h, e, hp => by
    have h0 := wsum_lessW_le k p ws
    have h1 : (if y.x.nm = k then y.less p else y).x.want.length ≤ y.x.want.length := by
      rw [lessw_x]
      split
      · exact List.length_erase_le
      · exact Nat.le_refl _
    show (if y.x.nm = k then y.less p else y).x.want.length + wsum (lessW ws k p) < y.x.want.length + wsum ws
    rcases List.mem_cons.mp h with q | q
    · subst q
      have : (if x.x.nm = k then x.less p else x).x.want.length < x.x.want.length := by
        rw [lessw_x, if_pos e]
        show (x.x.want.erase p).length < _
        rw [List.length_erase_of_mem hp]
        have := List.length_pos_of_mem hp
        omega
      omega
    · have := wsum_lessW q e hp
      omega
theorem wsum_noW_le (k : Int) : ∀ ws : List Lc, wsum (noW ws k) ≤ wsum ws
  | [] => Nat.le_refl _
  | y :: ws => by
    have := wsum_noW_le k ws
    unfold noW at this ⊢
    rw [List.filter_cons]
    split
    · show y.x.want.length + wsum _ ≤ y.x.want.length + wsum ws
      omega
    · show wsum _ ≤ y.x.want.length + wsum ws
      omega
theorem wsum_noW {k : Int} {x : Lc} : ∀ {ws : List Lc}, x ∈ ws → x.x.nm = k → x.x.want ≠ [] → wsum (noW ws k) < wsum ws
  | [], h, _, _ => by cases h
  | y :: ws, h, e, hp => by
    have h0 := wsum_noW_le k ws
    rcases List.mem_cons.mp h with q | q
    · subst q
      unfold noW at h0 ⊢
      rw [List.filter_cons, if_neg (by simp [e])]
      show wsum _ < x.x.want.length + wsum ws
      have := List.length_pos_iff.mpr hp
      omega
    · have := wsum_noW q e hp
      unfold noW at this ⊢
      rw [List.filter_cons]
      split
      · show y.x.want.length + wsum _ < y.x.want.length + wsum ws
        omega
      · show wsum _ < y.x.want.length + wsum ws
        omega
theorem noW_len (ws : List Lc) (k : Int) : (noW ws k).length ≤ ws.length := List.length_filter_le _ _
theorem lessW_len (ws : List Lc) (k p : Int) : (lessW ws k p).length = ws.length := by unfold lessW; rw [List.length_map]
/-- ten keys are not among nine -/
theorem Ks_len {kvs : List (Key × V)} (h : KsAt kvs) : kvs.length ≤ 9 := by
  obtain ⟨ks, e, nd, r⟩ := h
  have e2 := congrArg List.length e
  rw [List.length_map, List.length_map] at e2
  rw [e2]
  have := nodup_le (m := keysFrom 0 9) nd fun k hk => by
    have := r k hk
    unfold keysFrom
    exact List.mem_map.mpr ⟨k.toNat, List.mem_range.mpr (by omega), by omega⟩
  unfold keysFrom at this
  rw [List.length_map, List.length_range] at this
  exact this
theorem Ks_full {kvs : List (Key × V)} (h : KsAt kvs) : (∀ p : Int, 0 ≤ p → p ≤ 8 → (valV kvs (.inl p : Key)).isSome = true) ↔ ¬ ((kvs.length : Int) < 9) := by
  obtain ⟨ks, e, nd, r⟩ := h
  have e2 := congrArg List.length e
  rw [List.length_map, List.length_map] at e2
  have mem : ∀ p : Int, (valV kvs (.inl p : Key)).isSome = true ↔ p ∈ ks := fun p => by
    rw [val_mem, e]
    exact ⟨fun h => let ⟨q, hq, z⟩ := List.mem_map.mp h; Sum.inl.inj z ▸ hq, fun h => List.mem_map.mpr ⟨p, h, rfl⟩⟩
  have m9 : ∀ p : Int, 0 ≤ p → p ≤ 8 → p ∈ keysFrom 0 9 := fun p h0 h8 => by
    unfold keysFrom
    exact List.mem_map.mpr ⟨p.toNat, List.mem_range.mpr (by omega), by omega⟩
  constructor
  · intro h
    have := nodup_le (l := keysFrom 0 9) (m := ks) (by decide) fun k hk => by
      unfold keysFrom at hk
      obtain ⟨i, hi, q⟩ := List.mem_map.mp hk
      have := List.mem_range.mp hi
      exact (mem k).mp (h k (by omega) (by omega))
    unfold keysFrom at this
    rw [List.length_map, List.length_range] at this
    omega
  · intro h p h0 h8
    by_cases z : p ∈ ks
    · exact (mem p).mpr z
    · exfalso
      have := nodup_le (m := (keysFrom 0 9).erase p) nd fun k hk => by
        have := r k hk
        exact (List.mem_erase_of_ne (fun (y : k = p) => z (by rw [← y]; exact hk))).mpr (m9 k this.1 this.2)
      rw [List.length_erase_of_mem (m9 p h0 h8)] at this
      unfold keysFrom at this
      rw [List.length_map, List.length_range] at this
      omega
theorem Ks_put {kvs : List (Key × V)} {p : Int} {v : V} (h : KsAt kvs) (hn : valV kvs (.inl p : Key) = none) (h0 : 0 ≤ p) (h8 : p ≤ 8) : KsAt (putK kvs (.inl p) v) := by
  obtain ⟨ks, e, nd, r⟩ := h
  refine ⟨ks ++ [p], ?_, ?_, fun k hk => ?_⟩
  · rw [keys_put, if_neg (by rw [hn]; simp), e, List.map_append]
    rfl
  · rw [List.nodup_append]
    refine ⟨nd, by simp, fun x hx y hy z => ?_⟩
    rw [List.mem_singleton.mp hy] at z
    have h1 : (valV kvs (.inl p : Key)).isSome = true := val_mem.mpr (by rw [e]; exact List.mem_map.mpr ⟨x, hx, by rw [z]⟩)
    rw [hn] at h1; cases h1
  · rcases List.mem_append.mp hk with z | z
    · exact r k z
    · rw [List.mem_singleton.mp z]; exact ⟨h0, h8⟩
section
variable {H G : Hp} {cs : List Cp} {L : Addr → Prop} {cd : Addr} {ws : List Lc}
theorem CwAt.uniq (C : CwAt H cs L cd ws) {x y : Lc} (hx : x ∈ ws) (hy : y ∈ ws) (e : y.x.nm = x.x.nm) : y = x := by
  obtain ⟨i, hi⟩ := List.getElem?_of_mem hx
  obtain ⟨j, hj⟩ := List.getElem?_of_mem hy
  have h1 : (ws.map fun w => w.x.nm)[i]? = some x.x.nm := by rw [List.getElem?_map, hi]; rfl
  have h2 : (ws.map fun w => w.x.nm)[j]? = some x.x.nm := by rw [List.getElem?_map, hj, ← e]; rfl
  have h3 := (List.getElem?_inj (List.getElem?_eq_some_iff.mp h2).1 C.nms).mp (h2.trans h1.symm)
  rw [h3, hi] at hj
  exact (Option.some.inj hj).symm
/-- the others are left alone -/
theorem CwAt.other {F : Addr → Prop} (C : CwAt H cs L cd ws) {x y : Lc} (hx : x ∈ ws) (hy : y ∈ ws) (ne : y ≠ x) (k : Kt F H G) (sub : ∀ b, F b → b = x.pg ∨ b = cd) : WcAt G y := by
  refine (C.each y hy).kt k fun b z q => ?_
  obtain ⟨kvs, e1, _⟩ := (C.each x hx).pg_
  obtain ⟨xs, e2, _⟩ := (C.each y hy).l1_
  obtain ⟨zs, e3, _⟩ := (C.each y hy).l2_
  rcases sub b z with z | z <;> rcases q with q | q | q
  · exact ne (C.pgs y hy x hx (q.symm.trans z))
  · rw [← q, z, e1] at e2; cases e2
  · rw [← q, z, e1] at e3; cases e3
  · exact C.pcd y hy (q.symm.trans z)
  · rw [← q, z, C.dic] at e2; cases e2
  · rw [← q, z, C.dic] at e3; cases e3
theorem CwAt.less (C : CwAt H cs L cd ws) {x : Lc} (hx : x ∈ ws) {p : Int} (k : Kt (fun b => b = x.pg) H G) {kvs : List (Key × V)} (e : G x.pg = some (.dK kvs)) (hk : KsAt kvs) (hv : PvAt G kvs (x.x.want.erase p) x.x.t0) (ne : x.x.want.erase p ≠ []) : CwAt G (lessC cs x.x.nm p) L cd (lessW ws x.x.nm p) := by
  have W := C.each x hx
  obtain ⟨xs, e2, q2⟩ := W.l1_
  obtain ⟨zs, e3, q3⟩ := W.l2_
  obtain ⟨kv0, e1, _⟩ := W.pg_
  refine ⟨by rw [lessW_xs, C.xs], by rw [lessW_wK]; exact k.dK C.dic (fun z => C.pcd x hx z.symm), fun y hy => ?_, by rw [lessW_nms]; exact C.nms, fun y hy b z => ?_, C.ncd, fun y hy z hz q => ?_, fun y hy => ?_⟩
  · obtain ⟨y0, h0, rfl⟩ := lessW_mem.mp hy
    by_cases z : y0.x.nm = x.x.nm
    · have := C.uniq hx h0 z
      subst this
      rw [if_pos rfl]
      exact ⟨k.tup W.u_, k.tup W.wh_, ⟨xs, k.lst e2 (fun z => ne_of e2 e1 (by intro z; cases z) z), q2.mono fun _ _ z => z.kt k⟩, ⟨zs, k.lst e3 (fun z => ne_of e3 e1 (by intro z; cases z) z), q3.mono fun _ _ z => z.kt k⟩, ⟨kvs, e, hk, hv⟩, ne⟩
    · rw [if_neg z]
      exact C.other hx h0 (fun y => z (by rw [y])) k fun b z => .inl z
  · obtain ⟨y0, h0, rfl⟩ := lessW_mem.mp hy
    rw [lessw_wF] at z
    exact C.nl y0 h0 b z
  · obtain ⟨y0, h0, rfl⟩ := lessW_mem.mp hy
    obtain ⟨z0, h1, rfl⟩ := lessW_mem.mp hz
    rw [lessw_pg, lessw_pg] at q
    rw [C.pgs y0 h0 z0 h1 q]
  · obtain ⟨y0, h0, rfl⟩ := lessW_mem.mp hy
    rw [lessw_pg]
    exact C.pcd y0 h0
theorem CwAt.no (C : CwAt H cs L cd ws) {x : Lc} (hx : x ∈ ws) (k : Kt (fun b => b = x.pg ∨ b = cd) H G) (e : G cd = some (.dK (wK (noW ws x.x.nm)))) : CwAt G (noC cs x.x.nm) L cd (noW ws x.x.nm) := by
  have mem : ∀ {y}, y ∈ noW ws x.x.nm → y ∈ ws := fun h => (noW_mem.mp h).1
  exact ⟨by rw [noW_xs, C.xs], e, fun y hy => C.other hx (mem hy) (fun z => (noW_mem.mp hy).2 (by rw [z])) k fun b z => z, (List.filter_sublist.map _).nodup C.nms, fun y hy => C.nl y (mem hy), C.ncd, fun y hy z hz => C.pgs y (mem hy) z (mem hz), fun y hy => C.pcd y (mem hy)⟩
end
end S02

set_option Elab.async false
set_option linter.all false
set_option maxRecDepth 100000
set_option maxHeartbeats 4000000
/-! ### the law reads a page -/
namespace S02
open PySem PySem.Spec PyProof.Rows L2 K5 SupX GenX
section
variable {P : Program} {w : World} {K : PySem.W.Frag} {mg : Str → Option Value} {base : Heap} {A : Ad} {tp : Nat → Addr}
abbrev Nscpage : List Str := ["_law_box", "_law_lead", "_law_copies", "_law_name", "_law_whole_here", "_law_pages", "_law_page_here", "_law_left"]
theorem scpage : FnScope Nscpage ["_law_box", "_law_lead", "_law_copies"] (defScope s_page) := ⟨rfl, rfl, rfl, by decide +kernel, rfl, by decide +kernel, by decide +kernel⟩
/-- what others than the law's copies may write -/
def oF (l : Addr) (a : La) (bx bi : Addr) : Addr → Prop := fun b => lF l a b ∨ bF bx bi b
def spPage (A : Ad) (K : PySem.W.Frag) (tp : Nat → Addr) : Sp := fun vs H Q _ => ∃ (bx bi l cd : Addr) (a : La) (t : TT) (n : Nat) (m : M) (ws : List Lc), vs = [.ref bx, .ref l, .ref cd] ∧ BoxAt H bx bi ∧ LeadAt A K H l a t n m ∧ Tg (tL tp) H ∧ CwAt H a.cs (oF l a bx bi) cd ws ∧ ws ≠ [] ∧ ws.length < 64 ∧ (∀ b, bF bx bi b → ¬ lF l a b) ∧
  ∀ G cs' ws', BoxAt G bx bi → LeadAt A K G l (a.sets a.bg cs') t n m → CwAt G cs' (oF l (a.sets a.bg cs') bx bi) cd ws' → wsum ws' < wsum ws → ws'.length ≤ ws.length → (∀ w ∈ ws', ∃ y ∈ ws, w.pg = y.pg) → (∀ b, lF l (a.sets a.bg cs') b → lF l a b) → Kg (tL tp) (fun b => oF l a bx bi b ∨ b = cd ∨ ∃ w ∈ ws, b = w.pg) H G → Q (.bl true) G
theorem lF_sub {l : Addr} {a : La} {bg : Int} {cs : List Cp} (h : ∀ b, csF cs b → csF a.cs b) : ∀ b, lF l (a.sets bg cs) b → lF l a b := fun b z => by
  rcases z with z | z | z | z | z | z | z
  · exact .inl z
  · exact .inr (.inl z)
  · exact .inr (.inr (.inl z))
  · exact .inr (.inr (.inr (.inl z)))
  · exact .inr (.inr (.inr (.inr (.inl z))))
  · exact .inr (.inr (.inr (.inr (.inr (.inl z)))))
  · exact .inr (.inr (.inr (.inr (.inr (.inr (h b z))))))
theorem ok_page (T : Txt K mg A) (TB : TbsB base mg A tp) : ∃ fd, FnOk P w K mg base CX0 11 (A.d 78) fd ["_law_box", "_law_lead", "_law_copies"] (spPage A K tp) ∧ Binds K fd ["_law_box", "_law_lead", "_law_copies"] [] := by
  obtain ⟨fd, F⟩ := T.page.fn
  obtain ⟨fdT, Gtake, btake⟩ := ok_take (P := P) (w := w) (base := base) T
  obtain ⟨fdJ, Gjoined, bjoined⟩ := ok_joined (P := P) (w := w) (base := base) T
  obtain ⟨fdR, G_Lead_read_page, b_Lead_read_page⟩ := ok_read_page (P := P) (w := w) (base := base) T TB
  refine ⟨fd, F.ok scpage (fun vs H Q E h => ?_) (fun cdv Ar outer s0 H vs Q E hr h => ?_), F.binds fun _ _ _ _ _ _ us hl => match us, hl with | [_, _, _], _ => rfl⟩
  · obtain ⟨bx, bi, l, cd, a, t, n, m, ws, rfl, _⟩ := h
    rfl
  · obtain ⟨bx, bi, l, cd, a, t, n, m, ws, rfl, B, L, TG, C, hne, few, nbl, k⟩ := h
    have hu := hu_of hr
    refine ⟨_, (pss_cons (ps_set (i := 3) scpage.nd rfl (Or.inl rfl) (pe_ix ix_list (pe_callB (call_sortedDI (by rfl)) (by rfl) T.sorted (by decide +kernel) (pa_cons (pv 2) pa_nil)) (pe_call Gtake (hr.mono (by first | decide | omega)) rfl T.take.at_ T.take.kp btake .nil pass0 (pa_cons (pv 0) (pa_cons (pe_callB call_lenD (by rfl) T.len PySem.boot_len (pa_cons (pv 2) pa_nil)) pa_nil))) (fun _ _ => rfl)))
      (pss_cons (ps_asg (pe_dget hu (pv 2) (pv 3) (fun _ _ => rfl)) (pg_tup rfl (pgs_cons (pg_name (i := 4) scpage.nd rfl (Or.inl rfl)) (pgs_cons (pg_name (i := 5) scpage.nd rfl (Or.inr rfl)) pgs_nil))))
      (pss_cons (ps_setLc (i := 7) (own := [("_law_page_here", 6)]) (g := (gName 6)) (tt := tB (tDNotIn (tVar 6) (tVar 5))) (by rfl) scpage.nd rfl rfl (sw_true rfl rfl rfl (by decide +kernel)) (pi_range1 (by rfl) T.range (pa_cons pe_int pa_nil)) (blkOk_by (N := Nscpage) (sc := defScope s_page) (by decide +kernel)) (fun _ _ _ _ _ => pg_name (i := 6) scpage.nd rfl (Or.inl rfl)) (fun _ _ _ _ _ => (pts_one (pt_cmp (pc_dnotin hu (pv 6) (pv 5))))) (fun _ _ _ _ _ => (pv 6)))
      (pss_cons (ps_set (i := 6) scpage.nd rfl (Or.inl rfl) (pe_ix ix_list (pv 7) (pe_call Gtake (hr.mono (by first | decide | omega)) rfl T.take.at_ T.take.kp btake .nil pass0 (pa_cons (pv 0) (pa_cons (pe_callB call_len_seq (by rfl) T.len PySem.boot_len (pa_cons (pv 7) pa_nil)) pa_nil))) (fun _ _ => rfl)))
      (pss_cons (ps_dput hu (pv 5) (pv 6) (pe_meth (pv 1) T.cl_Lead T.m_Lead_read_page.me G_Lead_read_page (hr.mono (by first | decide | omega)) b_Lead_read_page .nil pass0 (pa_cons (pv 3) (pa_cons (pv 6) pa_nil))) rfl)
      (pss_cons (ps_if (pt_cmpR op_lt (pe_callB call_lenD (by rfl) T.len PySem.boot_len (pa_cons (pv 5) pa_nil)) pe_int (nomark _))
        (pss_one (ps_ret pe_bl))
        pss_nil)
      (pss_cons (ps_expr (pe_dpop1 (pv 2) (pv 3) ⟨rfl, rfl, rfl, rfl⟩))
      (pss_one (ps_ret (pe_cmpR (op_eqD hr.units) (pe_call Gjoined (hr.mono (by first | decide | omega)) rfl T.joined.at_ T.joined.kp bjoined .nil pass0 (pa_cons (pv 5) pa_nil)) (pv 4) (nomark _))))))))))), ?_⟩
    have keyE : (wK ws).map (·.1) = (ws.map fun w => w.x.nm).map Sum.inl := by unfold wK; rw [List.map_map, List.map_map]; rfl
    have lenE : (wK ws).length = ws.length := by unfold wK; rw [List.length_map]
    have pos : 0 < ws.length := List.length_pos_iff.mpr hne
    refine ⟨_, rfl, cd, wK ws, ws.map fun w => w.x.nm, rfl, .inl C.dic, keyE, by rw [List.length_map]; exact few, fun ys q perm srt nq => ?_⟩
    have kq : Kp No H (upd H q (.lst (ys.map V.int))) := Kp.new nq
    have hq : upd H q (.lst (ys.map V.int)) q = some (.lst (ys.map V.int)) := upd_same
    generalize upd H q (.lst (ys.map V.int)) = G1 at kq hq ⊢
    have C1 := C.kt kq.t fun _ z => False.elim z
    have B1 := B.no kq
    refine ⟨_, rfl, _, rfl, cd, wK ws, rfl, C1.dic, bx, bi, _, rfl, B1, by rw [lenE]; omega, Nat.lt_of_le_of_lt (by rw [lenE]; omega : ((wK ws).length : Int).natAbs ≤ 64) (by decide), fun r1 G2 a1 b1 B2 k2 => ?_⟩
    -- the name
    obtain ⟨r, rfl⟩ : ∃ r : Nat, r1 = (r : Int) := ⟨r1.toNat, by omega⟩
    have hrl : r < ys.length := by rw [perm.length_eq, List.length_map]; rw [lenE] at b1; omega
    obtain ⟨x, hx, hxn⟩ : ∃ x ∈ ws, x.x.nm = ys[r] := by
      have := perm.mem_iff.mp (List.getElem_mem hrl)
      exact List.mem_map.mp this
    have hys : (ys.map V.int)[r]? = some (.int x.x.nm) := by rw [List.getElem?_map, List.getElem?_eq_getElem hrl, ← hxn]; rfl
    have hq2 : G2 q = some (.lst (ys.map V.int)) := k2.t.lst hq (new_nb B nq)
    have K2 : Kp (bF bx bi) H G2 := (kq.sub fun _ z => False.elim z).trans k2 fun _ z => .inl z
    have C2 := C.kt K2.t fun _ z => .inr z
    have L2 := L.kt K2.t nbl
    have W2 := C2.each x hx
    refine ⟨q, _, (r : Int), .int x.x.nm, rfl, rfl, SqL.of hq2, atI_nat hys, ?_⟩
    -- whole_here, pages = copies[name]
    refine ⟨_, rfl, _, rfl, cd, _, rfl, C2.get hx, x.u, _, rfl, SqT.of W2.u_, rfl, _, _, rfl, _, _, rfl, rfl, ?_⟩
    -- left
    obtain ⟨kvs, epg, hks, hpv⟩ := W2.pg_
    refine ⟨9, rfl, by decide, by decide, fun D nD => ?_⟩
    have nDpg : x.pg ≠ D := ne_of_none epg nD
    refine lc_range (lo := 0) (n := (9 : Int).toNat) (fun i J => Kp (fun b => b = D) G2 J ∧ ∃ acc : List Int, J D = some (.lst (acc.map V.int)) ∧ acc.length ≤ i ∧ ∀ p : Int, p ∈ acc ↔ (0 ≤ p ∧ p < i ∧ p ∈ x.x.want)) ⟨Kp.new nD, [], upd_same, Nat.le_refl _, fun p => ⟨fun z => (by cases z), fun z => by omega⟩⟩ ?_ ?_
    · rintro i J hi ⟨kJ, acc, hD, hl, hm⟩
      have hi9 : i < 9 := by simpa using hi
      have eJ := kJ.t.dK epg nDpg
      have dg : DGet J x.pg (.int (0 + (i : Nat))) (valV kvs (.inl (i : Int) : Key)) := by
        rw [Int.zero_add]
        exact DGet.k (k := Sum.inl (i : Int)) eJ
      have hv := hpv (i : Int) (by omega) (by omega)
      refine ⟨rfl, _, rfl, _, rfl, x.pg, _, rfl, dg, _, rfl, ?_⟩
      by_cases hw : (i : Int) ∈ x.x.want
      · rw [hv.1 hw]
        refine iteT ⟨_, rfl, acc.map V.int, hD, szL (by rw [List.length_map]; omega), kJ.trans (Kp.updL (F := fun b => b = D) hD rfl) (fun _ z => .inl z), acc ++ [(i : Int)], by rw [upd_same, List.map_append, Int.zero_add]; rfl, by rw [List.length_append]; simp only [List.length_cons, List.length_nil]; omega, fun p => ?_⟩
        rw [List.mem_append, hm, List.mem_singleton]
        constructor
        · rintro (⟨h1, h2, h3⟩ | h1)
          · exact ⟨h1, by omega, h3⟩
          · rw [h1]; exact ⟨by omega, by omega, hw⟩
        · rintro ⟨h1, h2, h3⟩
          by_cases e : p = (i : Int)
          · exact .inr e
          · exact .inl ⟨h1, by omega, h3⟩
      · obtain ⟨v, e, _⟩ := hv.2 hw
        rw [e]
        refine iteF ⟨kJ, acc, hD, by omega, fun p => ?_⟩
        rw [hm]
        constructor
        · rintro ⟨h1, h2, h3⟩
          exact ⟨h1, by omega, h3⟩
        · rintro ⟨h1, h2, h3⟩
          refine ⟨h1, ?_, h3⟩
          by_cases e : p = (i : Int)
          · exact absurd (e ▸ h3) hw
          · omega
    · rintro J ⟨kJ, acc, hD, hl, hm⟩
      have in9 : ∀ p ∈ x.x.want, 0 ≤ p ∧ p ≤ 8 := by
        have hc : x.x ∈ a.cs := by rw [← C.xs]; exact List.mem_map.mpr ⟨x, hx, rfl⟩
        exact (L.shf.each x.x hc).in9
      have hm : ∀ p : Int, p ∈ acc ↔ p ∈ x.x.want := fun p => by
        rw [hm]
        exact ⟨fun z => z.2.2, fun z => ⟨(in9 p z).1, by have := (in9 p z).2; show p < (9 : Int); omega, z⟩⟩
      have apos : 0 < acc.length := by
        cases e : x.x.want with
        | nil => exact absurd e W2.ne
        | cons p _ => exact List.length_pos_of_mem ((hm p).mpr (by rw [e]; exact List.mem_cons_self))
      have nDH : H D = none := K2.free nD fun z => absurd z (new_nb B2 nD)
      have nDB : ¬ bF bx bi D := new_nb B nDH
      have BJ : BoxAt J bx bi := B2.kt kJ.t fun b z y => nDB (z ▸ y)
      have al9 : acc.length ≤ 9 := hl
      refine ⟨_, rfl, _, rfl, _, rfl, D, acc.map V.int, rfl, .inl (SqL.of hD), bx, bi, _, rfl, BJ, by rw [List.length_map]; omega, Nat.lt_of_le_of_lt (by rw [List.length_map]; omega : ((acc.map V.int).length : Int).natAbs ≤ 64) (by decide), fun r2 G3 a2 b2 B3 k3 => ?_⟩
      obtain ⟨r2, rfl⟩ : ∃ r : Nat, r2 = (r : Int) := ⟨r2.toNat, by omega⟩
      rw [List.length_map] at b2
      have hrl2 : r2 < acc.length := by omega
      obtain ⟨p, ep⟩ : ∃ p, acc[r2]? = some p := ⟨_, List.getElem?_eq_getElem hrl2⟩
      have hp : p ∈ x.x.want := (hm p).mp (List.mem_of_getElem? ep)
      have hD3 : G3 D = some (.lst (acc.map V.int)) := k3.t.lst hD nDB
      have K3 : Kp (bF bx bi) H G3 := by
        have h1 : Kp (fun b => bF bx bi b ∨ b = D) H G3 := ((K2.sub (F' := fun b => bF bx bi b ∨ b = D) fun _ z => .inl z).trans kJ fun b z => .inl (.inr z)).trans k3 fun b z => .inl (.inl z)
        exact fun b o e n => h1 b o e fun mu z => z.elim (n mu) fun z => by rw [z, nDH] at e; cases e
      refine ⟨D, _, (r2 : Int), .int p, rfl, rfl, SqL.of hD3, atI_nat (by rw [List.getElem?_map, ep]; rfl), ?_⟩
      have C3 := C.kt K3.t fun _ z => .inr z
      have L3 := L.kt K3.t nbl
      have TG3 := TG.kp K3
      obtain ⟨dx, hs, el⟩ := L3.at_
      have hc : x.x ∈ a.cs := by rw [← C.xs]; exact List.mem_map.mpr ⟨x, hx, rfl⟩
      -- pages[page] = lead.read_page(name, page)
      refine ⟨_, rfl, l, dx, _, rfl, el, rfl, _, rfl, _, rfl, l, a, t, n, m, x.x, p, rfl, L3, TG3, hc, hp, fun G4 v hv L4 k4 => ?_⟩
      have sub4 : ∀ b, b = a.cp ∨ csF a.cs b → lF l a b := fun b z => z.elim (fun z => .inr (.inr (.inr (.inr (.inr (.inl z)))))) fun z => .inr (.inr (.inr (.inr (.inr (.inr z)))))
      have sub' := lF_sub (l := l) (a := a) (bg := a.bg) (cs := readC a.cs x.x p) fun b z => readC_csF z
      have C4 := C3.kt k4.t fun b z => .inl (sub4 b z)
      have B4 := B3.kt k4.t fun b z y => nbl b y (sub4 b z)
      have W4 := C4.each x hx
      obtain ⟨kv4, e4, ks4, pv4⟩ := W4.pg_
      obtain ⟨p0, p8⟩ := in9 p hp
      have pn := (pv4 p p0 p8).1 hp
      have wnd : x.x.want.Nodup := (L.shf.each x.x hc).nd
      refine ⟨_, rfl, _, rfl, x.pg, _, rfl, DPut.k (k := Sum.inl p) e4 (szL (Nat.le_trans (Ks_len ks4) (by decide))), ?_⟩
      have ks5 : KsAt (putK kv4 (Sum.inl p) v) := Ks_put ks4 pn p0 p8
      have k5 : Kp (fun b => b = x.pg) G4 (upd G4 x.pg (.dK (putK kv4 (Sum.inl p) v))) := Kp.updD e4 rfl
      have e5 : upd G4 x.pg (.dK (putK kv4 (Sum.inl p) v)) x.pg = some (.dK (putK kv4 (Sum.inl p) v)) := upd_same
      have pv5 : PvAt (upd G4 x.pg (.dK (putK kv4 (Sum.inl p) v))) (putK kv4 (Sum.inl p) v) (x.x.want.erase p) x.x.t0 := fun q h0 h8 => by
        refine ⟨fun hq => ?_, fun hq => ?_⟩
        · have hqp : q ≠ p := fun e => List.Nodup.not_mem_erase wnd (e ▸ hq)
          rw [valV_put, if_neg (fun z => hqp (Sum.inl.inj z))]
          exact (pv4 q h0 h8).1 (List.mem_of_mem_erase hq)
        · by_cases e : q = p
          · rw [e, valV_put, if_pos rfl]
            exact ⟨v, rfl, hv.kt k5.t⟩
          · rw [valV_put, if_neg (fun z => e (Sum.inl.inj z))]
            obtain ⟨u, h1, h2⟩ := (pv4 q h0 h8).2 fun z => hq ((List.mem_erase_of_ne e).mpr z)
            exact ⟨u, h1, h2.kt k5.t⟩
      generalize putK kv4 (Sum.inl p) v = kv5 at k5 e5 pv5 ks5 ⊢
      generalize upd G4 x.pg (.dK kv5) = G5 at k5 e5 pv5 ⊢
      have npg : ∀ b, b = x.pg → ¬ oF l a bx bi b := fun b z => by rw [z]; exact C.nl x hx _ (.inl rfl)
      have L5 := L4.kt k5.t fun b z y => npg b z (.inl (sub' b y))
      have B5 := B4.kt k5.t fun b z y => npg b z (.inr y)
      have K5 : Kg (tL tp) (fun b => oF l a bx bi b ∨ b = cd ∨ ∃ w ∈ ws, b = w.pg) H G5 := (((Kg.of K3).sub (F' := fun b => oF l a bx bi b ∨ b = cd ∨ ∃ w ∈ ws, b = w.pg) fun _ z => .inl (.inr z)).trans k4 fun b z => .inl (.inl (.inl (sub4 b z)))).trans (Kg.of k5) fun b z => .inl (.inr (.inr ⟨x, hx, z⟩))
      have sub9 : ∀ b, oF l (a.sets a.bg (readC a.cs x.x p)) bx bi b → oF l a bx bi b := fun b z => z.imp (sub' b) id
      refine ⟨_, rfl, x.pg, kv5, rfl, e5, _, _, rfl, rfl, _, rfl, ?_⟩
      by_cases he : x.x.want.erase p = []
      · have full := (Ks_full ks5).mp fun q h0 h8 => by
          obtain ⟨u, h1, _⟩ := (pv5 q h0 h8).2 (by rw [he]; exact fun z => by cases z)
          rw [h1]; rfl
        rw [decide_eq_false full]
        refine iteF ?_
        have ecd : G5 cd = some (.dK (wK ws)) := k5.t.dK C4.dic fun z => C.pcd x hx z.symm
        refine ⟨_, rfl, cd, rfl, .inl ⟨wK ws, .inl ecd⟩, _, rfl, wK ws, Sum.inl x.x.nm, .ref x.u, ecd, rfl, wK_some C.nms hx, ?_⟩
        rw [wK_drop]
        have k6 : Kp (fun b => b = cd) G5 (upd G5 cd (.dK (wK (noW ws x.x.nm)))) := Kp.updD ecd rfl
        have e6 : upd G5 cd (.dK (wK (noW ws x.x.nm))) cd = some (.dK (wK (noW ws x.x.nm))) := upd_same
        generalize upd G5 cd (.dK (wK (noW ws x.x.nm))) = G6 at k6 e6 ⊢
        have pg6 : PgsAt G6 x.pg x.x.t0 := ⟨kv5, k6.t.dK e5 (C.pcd x hx), fun q h0 h8 => by
          obtain ⟨u, h1, h2⟩ := (pv5 q h0 h8).2 (by rw [he]; exact fun z => by cases z)
          exact ⟨u, h1, h2.kt k6.t⟩⟩
        refine ⟨_, rfl, x.pg, x.x.t0, rfl, pg6, fun G7 b l1 l2 xs zs k7 hb h1 q1 h2 q2 => ?_⟩
        have C7 := (C4.no hx (((k5.sub (F' := fun b => b = x.pg ∨ b = cd) fun _ z => .inl z).trans k6 fun b z => .inl (.inr z)).t) e6).kt k7.t fun _ z => False.elim z
        have kF : Kt (fun b => b = x.pg ∨ b = cd) G4 G7 := (((k5.sub (F' := fun b => b = x.pg ∨ b = cd) fun _ z => .inl z).trans k6 fun b z => .inl (.inr z)).trans k7 fun _ z => False.elim z).t
        obtain ⟨xs9, i1, j1⟩ := W4.l1_
        obtain ⟨zs9, i2, j2⟩ := W4.l2_
        have hwh := kF.tup W4.wh_
        have hw1 := kF.lst i1 fun z => z.elim (fun z => ne_of i1 e4 (by intro z; cases z) z) fun z => ne_of i1 C4.dic (by intro z; cases z) z
        have hw2 := kF.lst i2 fun z => z.elim (fun z => ne_of i2 e4 (by intro z; cases z) z) fun z => ne_of i2 C4.dic (by intro z; cases z) z
        have D1 : Dt K G7 3 (.ref b) (.tuple [.int x.x.t0.mom, .list ((whRows x.x.t0 8).map dRw), .list ((hnRows x.x.t0.hands).map dRh)]) := Dt.tup hb ((Dt.int 2 _).cons ((Dt.lst h1 (dt_map (K := K) (fun _ _ z => dt_rwD z) q1)).cons ((Dt.lst h2 (dt_map (K := K) (fun _ _ z => dt_rhD z) q2)).cons (DtA.nil 2))))
        have D2 : Dt K G7 3 (.ref x.wh) (.tuple [.int x.x.t0.mom, .list ((whRows x.x.t0 8).map dRw), .list ((hnRows x.x.t0.hands).map dRh)]) := Dt.tup hwh ((Dt.int 2 _).cons ((Dt.lst hw1 (dt_map (K := K) (fun _ _ z => dt_rwD z) (j1.mono fun _ _ z => z.kt kF))).cons ((Dt.lst hw2 (dt_map (K := K) (fun _ _ z => dt_rhD z) (j2.mono fun _ _ z => z.kt kF))).cons (DtA.nil 2))))
        refine ⟨_, rfl, _, _, D1.1, D2.1, D1.shaped (by decide), D2.shaped (by decide), ?_⟩
        rw [D1.same]
        have er : readC a.cs x.x p = noC a.cs x.x.nm := by unfold readC; rw [if_pos he]
        rw [← er] at C7
        have B6 := B5.kt k6.t fun b z y => C.ncd (by rw [← show b = cd from z]; exact .inr y)
        have L6 := L5.kt k6.t fun b z y => C.ncd (by rw [← show b = cd from z]; exact .inl (sub' b y))
        exact k G7 _ _ (B6.no k7) (L6.kt k7.t fun _ z => False.elim z) (C7.lim fun b z => .inl (sub9 b z)) (wsum_noW hx rfl W4.ne) (noW_len _ _) (fun y hy => ⟨y, (noW_mem.mp hy).1, rfl⟩) sub' ((K5.trans (Kg.of k6) fun b z => .inl (.inr (.inl z))).trans (Kg.of k7) fun _ z => False.elim z)
      · have nfull : (kv5.length : Int) < 9 := Decidable.byContradiction fun z => by
          obtain ⟨q, hq⟩ := List.exists_mem_of_ne_nil _ he
          obtain ⟨h0, h8⟩ := in9 q (List.mem_of_mem_erase hq)
          have h1 := (Ks_full ks5).mpr z q h0 h8
          rw [(pv5 q h0 h8).1 hq] at h1
          cases h1
        rw [decide_eq_true nfull]
        refine iteT ?_
        have er : readC a.cs x.x p = lessC a.cs x.x.nm p := by unfold readC; rw [if_neg he]
        have C5 := C4.less hx k5.t e5 ks5 pv5 he
        rw [← er] at C5
        exact k G5 _ _ B5 L5 (C5.lim fun b z => .inl (sub9 b z)) (wsum_lessW hx rfl hp) (Nat.le_of_eq (lessW_len _ _ _)) (fun y hy => let ⟨z, hz, e⟩ := lessW_mem.mp hy; ⟨z, hz, by rw [e, lessw_pg]⟩) sub' K5
end
end S02

set_option Elab.async false
set_option linter.all false
set_option maxRecDepth 100000
set_option maxHeartbeats 2000000
/-! d != {} -/
namespace SupX
open PySem PySem.Spec PyProof.Rows L2
def rNe0 : R2 := fun x y H Q => ∃ a b kvs, x = .ref a ∧ y = .ref b ∧ H a = some (.dK kvs) ∧ H b = some (.dK []) ∧ Q (.bl (!kvs.isEmpty)) H
theorem op_ne0 {X : Cx} (hu : X.A.units + 1 < cLine) : OpR X (compareOp .NotEq) rNe0 := by
  intro pins s σ H x y v u Q I rx ry h
  obtain ⟨a, b, kvs, rfl, rfl, ha, hb, q⟩ := h
  obtain rfl : v = Value.ref a := rx
  obtain rfl : u = Value.ref b := ry
  obtain ⟨_, sa, va, ra, da⟩ := (show ObjOk X.prog X.w H s.heap a (.dK kvs) from I.hok a _ ha)
  obtain ⟨_, sb, vb, rb, db⟩ := (show ObjOk X.prog X.w H s.heap b (.dK []) from I.hok b _ hb)
  obtain rfl : vb = [] := by cases rb; rfl
  have el : va.length = kvs.length := ra.length.symm
  show wpAny _ _ (richCompare .NotEq (.ref a) (.ref b)) _ _ s
  refine wpAny_richCompare_same_room (op := .NotEq) da.typeIs db.typeIs PySem.F.slot_dict_ne (wpAny_call_entry PySem.F.slot_dict_ne da.typeIs PySem.F.entry_dict_ne ?_ (PySem.F.args_dict_ne_2 _ _)) (by omega)
  show wpAny _ _ (Builtin.Dict.dictSlotArgs "__ne__" ⟨[.ref a, .ref b], []⟩ >>= _) _ _ s
  refine wpAny_bind ?_
  unfold Builtin.Dict.dictSlotArgs
  refine wpAny_bind (wpAny_notOrdered_dict da.typeIs ?_)
  show wpAny _ _ (pure (Value.ref a, Value.ref b)) _ _ s
  refine wpAny_pure ?_
  refine wpAny_bind (wpAny_isInstance (T := "dict") db.typeIs PySem.F.sub_dict_dict ?_)
  simp only [Bool.not_true, Bool.false_eq_true, if_false]
  refine wpAny_bind (wpAny_pure (wpAny_bind (wpAny_pure ?_)))
  refine wpAny_bind (PySem.W.samePairsP (knd := mixKind X.prog X.w) (r := true) sa sb da db (fun hl => ?_) ?_)
  · cases va with
    | nil => exact .nil
    | cons p r => exact absurd hl (Nat.succ_ne_zero _)
  refine wpAny_pure ⟨_, rfl, (fun x => nomatch x), ?_⟩
  refine ⟨.bl (!kvs.isEmpty), H, I, ?_, q⟩
  show Value.bool _ = Value.bool _
  congr 1
  cases va with
  | nil =>
    cases kvs with
    | nil => rfl
    | cons _ _ => cases el
  | cons _ _ =>
    cases kvs with
    | nil => cases el
    | cons _ _ => simp
end SupX

set_option Elab.async false
set_option linter.all false
set_option maxRecDepth 100000
set_option maxHeartbeats 4000000
/-! ### ahead of a turn of the law -/
namespace S02
open PySem PySem.Spec PyProof.Rows L2 K5 SupX GenX
theorem wK_add (ws : List Lc) (w : Lc) : wK (ws ++ [w]) = wK ws ++ [((.inl w.x.nm : Key), V.ref w.u)] := by unfold wK; rw [List.map_append]; rfl
theorem wK_none {ws : List Lc} {k : Int} (h : ∀ y ∈ ws, y.x.nm ≠ k) : valV (wK ws) (.inl k : Key) = none := by
  cases e : valV (wK ws) (.inl k : Key) with
  | none => rfl
  | some v =>
    have h1 := val_mem.mp (show (valV (wK ws) (.inl k : Key)).isSome = true by rw [e]; rfl)
    obtain ⟨p, hp, q⟩ := List.mem_map.mp h1
    obtain ⟨x, hx, rfl⟩ := List.mem_map.mp hp
    exact absurd (Sum.inl.inj q) (h x hx)
theorem CwAt.add {F L L' : Addr → Prop} {H G : Hp} {cs : List Cp} {cd : Addr} {ws : List Lc} (C : CwAt H cs L cd ws) (k : Kt F H G) (sub : ∀ b, F b → b = cd ∨ L b) {w : Lc} (hw : WcAt G w) (nm : ∀ y ∈ ws, y.x.nm ≠ w.x.nm) (new : ∀ b, wF w b → H b = none) (dic : G cd = some (.dK (wK (ws ++ [w])))) (lim : ∀ b, L' b → L b ∨ (H b = none ∧ ¬ wF w b)) (hL : ∀ b, L b → ∃ o, H b = some o) : CwAt G (cs ++ [w.x]) L' cd (ws ++ [w]) := by
  have pgH : ∀ y ∈ ws, ∃ o, H y.pg = some o := fun y hy => (C.each y hy).there (.inl rfl)
  refine ⟨by rw [List.map_append, C.xs]; rfl, dic, fun y hy => ?_, ?_, fun y hy b z q => ?_, fun q => ?_, fun y hy z hz e => ?_, fun y hy => ?_⟩
  · rcases List.mem_append.mp hy with h | h
    · refine (C.each y h).kt k fun b z q => ?_
      rcases sub b z with z | z
      · obtain ⟨xs, e2, _⟩ := (C.each y h).l1_
        obtain ⟨zs, e3, _⟩ := (C.each y h).l2_
        rcases q with q | q | q
        · exact C.pcd y h (q.symm.trans z)
        · rw [← q, z, C.dic] at e2; cases e2
        · rw [← q, z, C.dic] at e3; cases e3
      · exact C.nl y h b q z
    · rw [List.mem_singleton.mp h]; exact hw
  · rw [List.map_append, List.nodup_append]
    refine ⟨C.nms, by simp, fun p hp q hq e => ?_⟩
    obtain ⟨y, hy, rfl⟩ := List.mem_map.mp hp
    exact nm y hy (e.trans (List.mem_singleton.mp hq))
  · rcases List.mem_append.mp hy with h | h
    · rcases lim b q with r | ⟨r, _⟩
      · exact C.nl y h b z r
      · obtain ⟨o, e⟩ := (C.each y h).there z
        rw [r] at e; cases e
    · rw [List.mem_singleton.mp h] at z
      rcases lim b q with r | ⟨_, r⟩
      · obtain ⟨o, e⟩ := hL b r
        rw [new b z] at e; cases e
      · exact r z
  · rcases lim cd q with r | ⟨r, _⟩
    · exact C.ncd r
    · rw [C.dic] at r; cases r
  · rcases List.mem_append.mp hy with h | h <;> rcases List.mem_append.mp hz with h' | h'
    · exact C.pgs y h z h' e
    · rw [List.mem_singleton.mp h'] at e
      obtain ⟨o, q⟩ := pgH y h
      rw [e, new _ (.inl rfl)] at q; cases q
    · rw [List.mem_singleton.mp h] at e
      obtain ⟨o, q⟩ := pgH z h'
      rw [← e, new _ (.inl rfl)] at q; cases q
    · rw [List.mem_singleton.mp h, List.mem_singleton.mp h']
  · rcases List.mem_append.mp hy with h | h
    · exact C.pcd y h
    · rw [List.mem_singleton.mp h]
      intro e
      have := new _ (.inl rfl)
      rw [e, C.dic] at this; cases this
section
variable {A : Ad} {K : PySem.W.Frag} {tp : Nat → Addr}
structure LZ (A : Ad) (K : PySem.W.Frag) (tp : Nat → Addr) (J : Hp) (bx bi l S cd : Addr) (a : La) (t : TT) (m : M) (s r h : Addr) (ws : List Lc) (c : Nat) (e : Int) : Prop where
  L : LeadAt A K J l a t (50 * c) m
  en : Enough m e
  LS : LsAt J S s r h t (50 * c)
  bd : Bd t c
  box : BoxAt J bx bi
  tg : Tg (tL tp) J
  na : ∀ x, bF bx bi x → ¬ lF l a x
  nS1 : ¬ lF l a S
  nS2 : ¬ bF bx bi S
  ns : ∀ x, (x = s ∨ x = r ∨ x = h) → ¬ lF l a x
  C : CwAt J a.cs (oF l a bx bi) cd ws
  nx : ∀ b, (b = cd ∨ ∃ w ∈ ws, b = w.pg) → ¬ (b = s ∨ b = r ∨ b = h)
theorem LsAt.kt {F : Addr → Prop} {H G : Hp} (k : Kt F H G) {f s r h : Addr} {t : TT} {n : Nat} (L : LsAt H f s r h t n) (n1 : ¬ F f) (n2 : ∀ b kvs, H b = some (.dK kvs) → (b = s ∨ b = r ∨ b = h) → ¬ F b) : LsAt G f s r h t n := by
  obtain ⟨xs, x1, x2⟩ := L.ex
  exact ⟨⟨xs, k.lst x1 n1, x2⟩, L.st.kt k n2⟩
variable {J G : Hp} {bx bi l S cd : Addr} {a : La} {t : TT} {m : M} {s r h : Addr} {ws : List Lc} {c : Nat} {e : Int}
theorem LZ.take (Z : LZ A K tp J bx bi l S cd a t m s r h ws c e) (k : Kp (bF bx bi) J G) (B : BoxAt G bx bi) : LZ A K tp G bx bi l S cd a t m s r h ws c e :=
  ⟨Z.L.kt k.t Z.na, Z.en, Z.LS.kt k.t Z.nS2 (box_nf Z.box), Z.bd, B, Z.tg.kp k, Z.na, Z.nS1, Z.nS2, Z.ns, Z.C.kt k.t fun _ z => .inr z, Z.nx⟩
theorem LZ.kg (Z : LZ A K tp J bx bi l S cd a t m s r h ws c e) (k : Kg (tL tp) No J G) : LZ A K tp G bx bi l S cd a t m s r h ws c e :=
  ⟨Z.L.kt k.t (fun _ z => False.elim z), Z.en, Z.LS.kt k.t (fun z => z) (fun _ _ _ _ z => z), Z.bd, Z.box.kt k.t (fun _ z => False.elim z), Z.tg.kg k, Z.na, Z.nS1, Z.nS2, Z.ns, Z.C.kt k.t fun _ z => False.elim z, Z.nx⟩
theorem LZ.no (Z : LZ A K tp J bx bi l S cd a t m s r h ws c e) (k : Kp No J G) : LZ A K tp G bx bi l S cd a t m s r h ws c e := Z.kg (Kg.of k)
theorem LZ.le (Z : LZ A K tp J bx bi l S cd a t m s r h ws c e) {e' : Int} (h1 : e' ≤ e) (hb : Bd t (c + 1)) : LZ A K tp J bx bi l S cd a t m s r h ws (c + 1) e' :=
  ⟨Z.L.le (by omega), Z.en.le h1, ⟨Z.LS.ex, Z.LS.st.le (by omega)⟩, hb, Z.box, Z.tg, Z.na, Z.nS1, Z.nS2, Z.ns, Z.C, Z.nx⟩
theorem LZ.lee (Z : LZ A K tp J bx bi l S cd a t m s r h ws c e) {e' : Int} (h1 : e' ≤ e) : LZ A K tp J bx bi l S cd a t m s r h ws c e' :=
  ⟨Z.L, Z.en.le h1, Z.LS, Z.bd, Z.box, Z.tg, Z.na, Z.nS1, Z.nS2, Z.ns, Z.C, Z.nx⟩
theorem LZ.bxx (Z : LZ A K tp J bx bi l S cd a t m s r h ws c e) : ∀ x, bF bx bi x → ∃ ys, J x = some (.lst ys) := fun x z => by
  obtain ⟨ns, st, q1, q2, _⟩ := Z.box.ex
  rcases z with z | z <;> rw [z]
  · exact ⟨_, q1⟩
  · exact ⟨_, q2⟩
theorem LZ.sxx (Z : LZ A K tp J bx bi l S cd a t m s r h ws c e) : ∀ x, (x = s ∨ x = r ∨ x = h) → ∃ kvs, J x = some (.dK kvs) := fun x z => by
  obtain ⟨_, q1⟩ := Z.LS.st.rows.dc
  obtain ⟨_, q2⟩ := Z.LS.st.hands.dc
  rcases z with z | z | z <;> rw [z]
  · exact ⟨_, Z.LS.st.dc⟩
  · exact ⟨_, q1⟩
  · exact ⟨_, q2⟩
theorem LZ.oxx (Z : LZ A K tp J bx bi l S cd a t m s r h ws c e) : ∀ x, oF l a bx bi x → ∃ o, J x = some o := fun x z => z.elim (fun z => Z.L.there z) fun z => let ⟨ys, e⟩ := Z.bxx x z; ⟨_, e⟩
theorem LZ.xxx (Z : LZ A K tp J bx bi l S cd a t m s r h ws c e) : ∀ b, (b = cd ∨ ∃ w ∈ ws, b = w.pg) → ∃ kvs, J b = some (.dK kvs) := fun b z => by
  rcases z with z | ⟨w, hw, z⟩
  · rw [z]; exact ⟨_, Z.C.dic⟩
  · obtain ⟨kvs, e1, _⟩ := (Z.C.each w hw).pg_
    rw [z]; exact ⟨_, e1⟩
/-- a page is read -/
theorem LZ.page (Z : LZ A K tp J bx bi l S cd a t m s r h ws c e) {cs' : List Cp} {ws' : List Lc} (B : BoxAt G bx bi) (L : LeadAt A K G l (a.sets a.bg cs') t (50 * c) m) (C : CwAt G cs' (oF l (a.sets a.bg cs') bx bi) cd ws') (hs : ∀ b, lF l (a.sets a.bg cs') b → lF l a b) (hp : ∀ w ∈ ws', ∃ y ∈ ws, w.pg = y.pg) (k : Kg (tL tp) (fun b => oF l a bx bi b ∨ b = cd ∨ ∃ w ∈ ws, b = w.pg) J G) : LZ A K tp G bx bi l S cd (a.sets a.bg cs') t m s r h ws' c e := by
  refine ⟨L, Z.en, Z.LS.kt k.t (fun z => ?_) (fun b kvs eb z y => ?_), Z.bd, B, Z.tg.kg k, fun x z y => Z.na x z (hs x y), fun y => Z.nS1 (hs _ y), Z.nS2, fun x z y => Z.ns x z (hs x y), C, fun b z => Z.nx b (z.imp id fun ⟨w, hw, e⟩ => let ⟨y, hy, q⟩ := hp w hw; ⟨y, hy, e.trans q⟩)⟩
  · rcases z with (z | z) | z
    · exact Z.nS1 z
    · exact Z.nS2 z
    · obtain ⟨kvs, e1⟩ := Z.xxx S z
      obtain ⟨xs, e2, _⟩ := Z.LS.ex
      rw [e2] at e1; cases e1
  · rcases y with (y | y) | y
    · exact Z.ns b z y
    · obtain ⟨ys, e1⟩ := Z.bxx b y
      rw [eb] at e1; cases e1
    · exact Z.nx b y z
/-- a copy is begun -/
theorem LZ.copy (Z : LZ A K tp J bx bi l S cd a t m s r h ws c e) {x : Cp} {u wh pg l1 l2 : Addr} (L : LeadAt A K G l (a.sets (a.bg + 1) (a.cs ++ [x])) t (50 * c) m) (k : Kg (tL tp) (fun b => b = cd ∨ b = a.sh ∨ b = a.cp) J G) (e1 : x.nm = a.bg) (e2 : x.t0 = t)
    (hx : ∀ b, cF x b → J b = none ∧ b ≠ pg ∧ b ≠ l1 ∧ b ≠ l2) (n1 : J pg = none) (n2 : J l1 = none) (n3 : J l2 = none) (W : WcAt G ⟨x, u, wh, pg, l1, l2⟩) (dic : G cd = some (.dK (wK (ws ++ [⟨x, u, wh, pg, l1, l2⟩])))) : LZ A K tp G bx bi l S cd (a.sets (a.bg + 1) (a.cs ++ [x])) t m s r h (ws ++ [⟨x, u, wh, pg, l1, l2⟩]) c e := by
  have sh : ∀ b, b = a.sh ∨ b = a.cp → lF l a b := fun b z => z.elim (fun z => .inr (.inr (.inr (.inr (.inl z))))) fun z => .inr (.inr (.inr (.inr (.inr (.inl z)))))
  have lim : ∀ b, lF l (a.sets (a.bg + 1) (a.cs ++ [x])) b → lF l a b ∨ cF x b := fun b z => by
    rcases z with z | z | z | z | z | z | ⟨y, hy, z⟩
    · exact .inl (.inl z)
    · exact .inl (.inr (.inl z))
    · exact .inl (.inr (.inr (.inl z)))
    · exact .inl (.inr (.inr (.inr (.inl z))))
    · exact .inl (.inr (.inr (.inr (.inr (.inl z)))))
    · exact .inl (.inr (.inr (.inr (.inr (.inr (.inl z))))))
    · rcases List.mem_append.mp hy with q | q
      · exact .inl (.inr (.inr (.inr (.inr (.inr (.inr ⟨y, q, z⟩))))))
      · rw [List.mem_singleton.mp q] at z
        exact .inr z
  have live : ∀ {b}, (∃ o, J b = some o) → ¬ lF l a b → ¬ lF l (a.sets (a.bg + 1) (a.cs ++ [x])) b := fun ⟨o, e⟩ n z => (lim _ z).elim n fun z => by rw [(hx _ z).1] at e; cases e
  have nF : ∀ b, (∃ o, J b = some o) → b ≠ cd → ¬ lF l a b → ¬ (b = cd ∨ b = a.sh ∨ b = a.cp) := fun b _ h1 h2 z => z.elim h1 fun z => h2 (sh b z)
  obtain ⟨xs, eS, _⟩ := Z.LS.ex
  have bxl : ∀ b, bF bx bi b → ¬ (b = cd ∨ b = a.sh ∨ b = a.cp) := fun b z => by
    obtain ⟨ys, e⟩ := Z.bxx b z
    exact nF b ⟨_, e⟩ (fun q => by rw [q, Z.C.dic] at e; cases e) (Z.na b z)
  have new : ∀ b, wF ⟨x, u, wh, pg, l1, l2⟩ b → J b = none := fun b z => by
    rcases z with z | z | z <;> rw [z] <;> assumption
  refine ⟨L, Z.en, Z.LS.kt k.t (nF S ⟨_, eS⟩ (fun q => by rw [q, Z.C.dic] at eS; cases eS) Z.nS1) (fun b kvs eb z => nF b ⟨_, eb⟩ (fun q => Z.nx b (.inl q) z) (Z.ns b z)), Z.bd, Z.box.kt k.t (fun b z y => bxl b y z), Z.tg.kg k, fun b z => live (let ⟨ys, e⟩ := Z.bxx b z; ⟨_, e⟩) (Z.na b z), live ⟨_, eS⟩ Z.nS1, Z.nS2, fun b z => live (let ⟨ys, e⟩ := Z.sxx b z; ⟨_, e⟩) (Z.ns b z), ?_, fun b z y => ?_⟩
  · refine Z.C.add k.t (fun b z => z.imp id fun z => .inl (sh b z)) W (fun y hy => ?_) new dic (fun b z => ?_) Z.oxx
    · have hc : y.x ∈ a.cs := by rw [← Z.C.xs]; exact List.mem_map.mpr ⟨y, hy, rfl⟩
      have := (Z.L.shf.bgs y.x hc).2
      show y.x.nm ≠ x.nm
      rw [e1]
      omega
    · rcases z with z | z
      · rcases lim b z with q | q
        · exact .inl (.inl q)
        · obtain ⟨h1, h2, h3, h4⟩ := hx b q
          exact .inr ⟨h1, fun y => y.elim h2 fun y => y.elim h3 h4⟩
      · exact .inl (.inr z)
  · rcases z with z | ⟨w, hw, z⟩
    · exact Z.nx b (.inl z) y
    · rcases List.mem_append.mp hw with q | q
      · exact Z.nx b (.inr ⟨w, q, z⟩) y
      · rw [List.mem_singleton.mp q] at z
        obtain ⟨kvs, e⟩ := Z.sxx b y
        rw [show b = pg from z, n1] at e; cases e
theorem CwAt.ktl {F L L' : Addr → Prop} {H G : Hp} {cs : List Cp} {cd : Addr} {ws : List Lc} (C : CwAt H cs L cd ws) (k : Kt F H G) (sub : ∀ b, F b → L b) (h : ∀ b, L' b → L b ∨ H b = none) : CwAt G cs L' cd ws := by
  have C1 := C.kt k sub
  have C2 := C.lim h
  exact ⟨C1.xs, C1.dic, C1.each, C1.nms, C2.nl, C2.ncd, C1.pgs, C1.pcd⟩
/-- an event is done -/
theorem LZ.event (Z : LZ A K tp J bx bi l S cd a t m s r h ws c e) {f s' r' h' : Addr} {a' : La} {t' : TT} {m' : M} {e' : Int} (L : LeadAt A K G l a' t' (50 * (c + 1)) m') (en : Enough m' e') (LS : LsAt J f s' r' h' t' (50 * (c + 1))) (bd : Bd t' (c + 1))
    (fa : ∀ b, lF l a' b → lF l a b ∨ J b = none) (k : Kg (tL tp) (lF l a) J G) (hcs : a'.cs = a.cs) (nf1 : ¬ lF l a f) (nf2 : ¬ bF bx bi f) (ns : ∀ x, (x = s' ∨ x = r' ∨ x = h') → ¬ lF l a x) (nx : ∀ b, (b = cd ∨ ∃ w ∈ ws, b = w.pg) → ¬ (b = s' ∨ b = r' ∨ b = h')) : LZ A K tp G bx bi l f cd a' t' m' s' r' h' ws (c + 1) e' := by
  have live : ∀ {b}, (∃ o, J b = some o) → ¬ lF l a b → ¬ lF l a' b := fun {b} ⟨o, eo⟩ n z => (fa b z).elim n fun q => by rw [q] at eo; cases eo
  obtain ⟨xs, ef, _⟩ := LS.ex
  have st : ∀ x, (x = s' ∨ x = r' ∨ x = h') → ∃ o, J x = some o := fun x z => by
    obtain ⟨_, q1⟩ := LS.st.rows.dc
    obtain ⟨_, q2⟩ := LS.st.hands.dc
    rcases z with z | z | z <;> rw [z]
    · exact ⟨_, LS.st.dc⟩
    · exact ⟨_, q1⟩
    · exact ⟨_, q2⟩
  refine ⟨L, en, LS.kt k.t nf1 (fun b _ _ z => ns b z), bd, Z.box.kt k.t (fun b z y => Z.na b y z), Z.tg.kg k, fun x z => live (let ⟨ys, e⟩ := Z.bxx x z; ⟨_, e⟩) (Z.na x z), live ⟨_, ef⟩ nf1, nf2, fun x z => live (st x z) (ns x z), ?_, nx⟩
  rw [hcs]
  exact Z.C.ktl k.t (fun b z => .inl z) fun b z => z.elim (fun z => (fa b z).imp .inl id) fun z => .inl (.inr z)
theorem VtAt.no {H G : Hp} (k : Kp No H G) {v : V} : ∀ {e : Vt}, VtAt H v e → VtAt G v e
  | .tick _, ⟨u, e1, e2⟩ => ⟨u, e1, k.t.tup e2⟩
  | .tidy _, ⟨u, e1, e2⟩ => ⟨u, e1, k.t.tup e2⟩
  | .deals _, ⟨u, gp, ys, e1, e2, e3, e4⟩ => ⟨u, gp, ys, e1, k.t.tup e2, k.t.lst e3 (fun z => z), e4.mono fun _ _ z => z.kt k.t⟩
/-- the law reads a page -/
theorem page_go {D : Ends} {sc : Addr} {o5 o6 o7 o8 : Option V} (Z : LZ A K tp J bx bi l S cd a t m s r h ws c e) (hne : ws ≠ []) (few : ws.length < 64)
    (k : ∀ G a' ws', LZ A K tp G bx bi l S cd a' t m s r h ws' c e → wsum ws' < wsum ws → ws'.length ≤ ws.length → D.nx [some (.ref sc), some (.ref bx), some (.ref l), some (.ref S), some (.ref cd), o5, o6, o7, o8] G) :
    tIfS (tNot (tB (tCall (spPage A K tp) [] E0 (tCons (tVar 1) (tCons (tVar 2) (tCons (tVar 4) tNil)))))) (tRet (tC (V.bl false))) tNext D [some (.ref sc), some (.ref bx), some (.ref l), some (.ref S), some (.ref cd), o5, o6, o7, o8] J :=
  ⟨_, rfl, _, rfl, _, rfl, bx, bi, l, cd, a, t, _, m, ws, rfl, Z.box, Z.L, Z.tg, Z.C, hne, few, Z.na, fun G cs' ws' B L C hlt hle hp hs kG => ⟨true, rfl, iteF (k G _ ws' (Z.page B L C hs hp kG) hlt hle)⟩⟩
theorem wK_nil {ws : List Lc} : (wK ws).isEmpty = ws.isEmpty := by cases ws <;> rfl
/-- it reads a page if a copy is open -/
theorem page_turn {D : Ends} {sc : Addr} {o5 o6 o7 o8 : Option V} (Z : LZ A K tp J bx bi l S cd a t m s r h ws c e) (few : ws.length < 64)
    (k : ∀ G a' ws', LZ A K tp G bx bi l S cd a' t m s r h ws' c e → ws'.length ≤ ws.length → D.nx [some (.ref sc), some (.ref bx), some (.ref l), some (.ref S), some (.ref cd), o5, o6, o7, o8] G) :
    tIfS (tAnd (tTest (tOp rNe0 (tVar 4) tDNewK)) (tNot (tB (tCall (spPage A K tp) [] E0 (tCons (tVar 1) (tCons (tVar 2) (tCons (tVar 4) tNil))))))) (tRet (tC (V.bl false))) tNext D [some (.ref sc), some (.ref bx), some (.ref l), some (.ref S), some (.ref cd), o5, o6, o7, o8] J := by
  refine ⟨_, rfl, fun q nq => ?_⟩
  have kq : Kp No J (upd J q (.dK [])) := Kp.new nq
  have Z1 := Z.no kq
  refine ⟨cd, q, wK ws, rfl, rfl, Z1.C.dic, upd_same, _, rfl, ?_⟩
  rw [wK_nil]
  cases ws with
  | nil => exact iteF (iteF (k _ a [] Z1 (Nat.le_refl _)))
  | cons y ys => exact iteT (page_go Z1 (by simp) few fun G a' ws' Z2 _ hl => k G a' ws' Z2 hl)
end
end S02

set_option Elab.async false
set_option linter.all false
set_option maxRecDepth 100000
set_option maxHeartbeats 8000000
/-! ### the law -/
namespace S02
open PySem PySem.Spec PyProof.Rows L2 K5 SupX GenX
section
variable {P : Program} {w : World} {K : PySem.W.Frag} {mg : Str → Option Value} {base : Heap} {A : Ad} {tp : Nat → Addr} {nr pl B C fI : Addr}
abbrev Nsclaw : List Str := ["_law_script", "_law_box", "_law_lead", "_law_stores", "_law_copies", "_law_begun_here", "_law_turn", "_law_way", "_law_event_here"]
theorem sclaw : FnScope Nsclaw ["_law_script"] (defScope s_law) := ⟨rfl, rfl, rfl, by decide +kernel, rfl, by decide +kernel, by decide +kernel⟩
def spLaw (K : PySem.W.Frag) (tp : Nat → Addr) : Sp := fun vs H Q _ => ∃ (a : Addr) (ns : List Int), vs = [.ref a] ∧ SqL K H a (ns.map V.int) ∧ ns.length ≤ 63 ∧ Tg (tL tp) H ∧ ∀ G, Q (.bl true) G
theorem ok_law (T : Txt K mg A) (TB : TbsB base mg A tp) (X : Ex P w K mg A B C fI) (N : NewRoot K mg nr pl) (htop : (P.main.scope.names.lookup ("super" : Str)).isSome = false) {fd : FuncData} (F : Fun K "law" "law" s_law (A.d 79) fd) : FnOk P w K mg base CX0 14 (A.d 79) fd ["_law_script"] (spLaw K tp) := by
  obtain ⟨fd1, Gbegun, bbegun⟩ := ok_begun (P := P) (w := w) (base := base) T
  obtain ⟨fd2, Gtake, btake⟩ := ok_take (P := P) (w := w) (base := base) T
  obtain ⟨fd3, Gstore, bstore⟩ := ok_store (P := P) (w := w) (base := base) T
  obtain ⟨fd4, Gevent, bevent⟩ := ok_event (P := P) (w := w) (base := base) T
  obtain ⟨fd5, Gbehind, bbehind⟩ := ok_behind (P := P) (w := w) (base := base) T
  obtain ⟨fd6, Gdo, bdo⟩ := ok_do (P := P) (w := w) (base := base) T TB X htop
  obtain ⟨fd7, Gpage, bpage⟩ := ok_page (P := P) (w := w) (base := base) T TB
  obtain ⟨fda, G_Disk___init__, b_Disk___init__⟩ := ok_dk0 (P := P) (w := w) (base := base) (dTx T)
  obtain ⟨fdc, G_Lead___init__, b_Lead___init__⟩ := ok_linit (P := P) (w := w) (base := base) T N
  obtain ⟨fde, G_Lead_whole, b_Lead_whole⟩ := ok_wholeL (P := P) (w := w) (base := base) T TB
  obtain ⟨fdf, G_Lead_copy, b_Lead_copy⟩ := ok_copy (P := P) (w := w) (base := base) T
  obtain ⟨fdg, G_Lead_open_copies, b_Lead_open_copies⟩ := ok_open (P := P) (w := w) (base := base) T
  obtain ⟨fdh, G_Lead_room, b_Lead_room⟩ := ok_room0 (P := P) (w := w) (base := base) T
  refine F.ok sclaw (fun vs H Q E h => ?_) (fun cdv Ar outer s0 H vs Q E hr h => ?_)
  · obtain ⟨a, ns, rfl, _⟩ := h
    rfl
  · obtain ⟨sc, ns, rfl, hsc, hns, TG, k⟩ := h
    have hu := hu_of hr
    refine ⟨_, (pss_cons (ps_set (i := 1) sclaw.nd rfl (Or.inl rfl) (pe_call Gbegun (hr.mono (by first | decide | omega)) rfl T.begun.at_ T.begun.kp bbegun .nil pass0 (pa_cons (pv 0) pa_nil)))
      (pss_cons (ps_set (i := 2) sclaw.nd rfl (Or.inl rfl) (pe_make (E := E0) T.mk_Lead G_Lead___init__ (hr.mono (by first | decide | omega)) rfl T.c_Lead b_Lead___init__ .nil pass0 (pa_cons (pe_make0 (E := E0) T.mk_Disk G_Disk___init__ (hr.mono (by first | decide | omega)) rfl T.c_Disk b_Disk___init__ .nil pass0) (pa_cons pe_int pa_nil))))
      (pss_cons (ps_set (i := 3) sclaw.nd rfl (Or.inl rfl) (pe_lst (pa_cons (pe_call0 Gstore (hr.mono (by first | decide | omega)) rfl T.store.at_ T.store.kp bstore .nil pass0) pa_nil)))
      (pss_cons (ps_set (i := 4) sclaw.nd rfl (Or.inl rfl) pe_dnewK)
      (pss_cons (ps_set (i := 5) sclaw.nd rfl (Or.inl rfl) pe_int)
      (pss_cons (ps_for PassesOwn.never rfl (pi_range1 (by rfl) T.range (pa_cons (pe_call Gtake (hr.mono (by first | decide | omega)) rfl T.take.at_ T.take.kp btake .nil pass0 (pa_cons (pv 1) (pa_cons pe_int pa_nil))) pa_nil)) (pg_name (i := 6) sclaw.nd rfl (Or.inl rfl))
        (pss_cons (ps_set (i := 7) sclaw.nd rfl (Or.inl rfl) (pe_call Gtake (hr.mono (by first | decide | omega)) rfl T.take.at_ T.take.kp btake .nil pass0 (pa_cons (pv 1) (pa_cons pe_int pa_nil))))
        (pss_one (ps_if (pt_cmpR op_lt (pv 7) pe_int (nomark _))
          (pss_cons (ps_set (i := 8) sclaw.nd rfl (Or.inl rfl) (pe_call Gevent (hr.mono (by first | decide | omega)) rfl T.event.at_ T.event.kp bevent .nil pass0 (pa_cons (pv 1) (pa_cons (pe_ix ix_list (pv 3) (pe_un un_neg pe_int) (fun _ _ => rfl)) pa_nil))))
          (pss_cons (ps_set (i := 3) sclaw.nd rfl (Or.inl rfl) (pe_ix ix_tup (pe_call Gbehind (hr.mono (by first | decide | omega)) rfl T.behind.at_ T.behind.kp bbehind .nil pass0 (pa_cons (pv 3) (pa_cons (pv 8) pa_nil))) pe_int (fun _ _ => rfl)))
          (pss_one (ps_expr (pe_call Gdo (hr.mono (by first | decide | omega)) rfl T.do_.at_ T.do_.kp bdo .nil pass0 (pa_cons (pv 2) (pa_cons (pv 8) pa_nil)))))))
          (pss_one (ps_if (PW.pt (pw_and (pt_cmpR op_eq (pv 7) pe_int (nomark _)) (pw_and1 (pt_cmpR op_lt (pv 5) pe_int (nomark _)))))
            (pss_cons (ps_dput hu (pv 4) (pe_ix ix_tup (pe_meth0 (pv 2) T.cl_Lead T.m_Lead_copy.me G_Lead_copy (hr.mono (by first | decide | omega)) b_Lead_copy .nil pass0) pe_int (fun _ _ => rfl)) (pe_tup (pa_cons (pe_meth0 (pv 2) T.cl_Lead T.m_Lead_whole.me G_Lead_whole (hr.mono (by first | decide | omega)) b_Lead_whole .nil pass0) (pa_cons pe_dnewK pa_nil))) rfl)
            (pss_one (ps_set (i := 5) sclaw.nd rfl (Or.inl rfl) (pe_op op_add (pv 5) pe_int))))
            (pss_one (ps_if (PW.pt (pw_and (pt_cmpR (op_ne0 hu) (pv 4) pe_dnewK (nomark _)) (pw_and1 (pt_not (pt_val (pe_call Gpage (hr.mono (by first | decide | omega)) rfl T.page.at_ T.page.kp bpage .nil pass0 (pa_cons (pv 1) (pa_cons (pv 2) (pa_cons (pv 4) pa_nil)))))))))
              (pss_one (ps_ret pe_bl))
              pss_nil))))))))
      (pss_cons (ps_while PassesOwn.never (pt_cmpR (op_ne0 hu) (pv 4) pe_dnewK (nomark _))
        (pss_one (ps_if (pt_not (pt_val (pe_call Gpage (hr.mono (by first | decide | omega)) rfl T.page.at_ T.page.kp bpage .nil pass0 (pa_cons (pv 1) (pa_cons (pv 2) (pa_cons (pv 4) pa_nil))))))
          (pss_one (ps_ret pe_bl))
          pss_nil)))
      (pss_one (ps_ret (pe_and (pe_cmpR (op_eqD hr.units) (pe_meth0 (pv 2) T.cl_Lead T.m_Lead_open_copies.me G_Lead_open_copies (hr.mono (by first | decide | omega)) b_Lead_open_copies .nil pass0) (pe_lst pa_nil) (nomark _)) (pe_one (pe_cmpR op_eq (pe_ix ix_tup (pe_meth0 (pv 2) T.cl_Lead T.m_Lead_room.me G_Lead_room (hr.mono (by first | decide | omega)) b_Lead_room .nil pass0) pe_int (fun _ _ => rfl)) pe_int (nomark _))))))))))))), ?_⟩
    -- box, lead
    refine ⟨_, rfl, sc, ns, rfl, hsc, hns, fun G1 bx bi nbx nbi B1 k1 => ?_⟩
    refine fun d ddx nd ndx nex => ⟨d, ddx, rfl, upd_same, fun G2 ls lu nls nlu D2 k2 => ⟨rfl, ?_⟩⟩
    have nd0 : upd G1 ddx (.own d) d = none := (upd_ne nex.symm).trans nd
    have k12 : Kp (fun b => b = d) G1 G2 := ((Kp.new (F := fun b => b = d) ndx).andN nd0).trans k2 fun b z => .inl z
    have k2H : Kp No G1 G2 := kp_fresh k12 fun b z => by rw [z]; exact nd
    have B2 := B1.no k2H
    refine fun l ldx nl nldx nlx => ?_
    have nl0 : upd G2 ldx (.own l) l = none := (upd_ne nlx.symm).trans nl
    have kL : Kp No G2 (upd (upd G2 ldx (.own l)) l (.ins (A.c 55) ldx [])) := (Kp.new nldx).andN nl0
    have eL : upd (upd G2 ldx (.own l)) l (.ins (A.c 55) ldx []) l = some (.ins (A.c 55) ldx []) := upd_same
    unfold tNil
    show spLInit A K [.ref l, .ref d, .int 0] (upd (upd G2 ldx (.own l)) l (.ins (A.c 55) ldx [])) _ _
    generalize upd (upd G2 ldx (.own l)) l (.ins (A.c 55) ldx []) = G2' at kL eL ⊢
    have gnew : Good M.new := ⟨rfl, (fun q hq => nomatch hq), Nat.zero_le _, (fun z => by cases z), (fun l z => by cases z)⟩
    refine ⟨l, ldx, d, ls, lu, M.new, 60 * 51, rfl, eL, D2.kt kL.t (fun _ z => False.elim z), gnew, rfl, rfl, rfl, rfl, by decide, fun G3 a m en3 L3 ad fa k3 hcs hbg => ⟨rfl, ?_⟩⟩
    have nlB : ∀ {c : Addr}, (c = bx ∨ c = bi) → ¬ lF l a c := fun {c} z y => by
      obtain ⟨ns, st, h1, h2, _⟩ := B2.ex
      obtain ⟨ns1, st1, i1, i2, _⟩ := B1.ex
      have ex2 : ∃ ys, G2' c = some (.lst ys) ∧ G1 c ≠ none := by
        rcases z with z | z <;> rw [z]
        · exact ⟨_, kL.t.lst h1 (fun z => z), by rw [i1]; simp⟩
        · exact ⟨_, kL.t.lst h2 (fun z => z), by rw [i2]; simp⟩
      obtain ⟨ys, e1, e2⟩ := ex2
      obtain ⟨dx9, tp9, st9, ed9, _⟩ := D2.ex
      rcases fa c y with y | (y | y | y) | y
      · rw [y, eL] at e1; cases e1
      · rw [y, kL.t.ins ed9 fun z => z] at e1; cases e1
      · rw [y] at e2
        exact e2 (upd_none (upd_none nls).2).2
      · rw [y] at e2
        exact e2 (upd_none (upd_none nlu).2).2
      · rw [y] at e1; cases e1
    have B3 : BoxAt G3 bx bi := (B2.no kL).kt k3.t fun b z y => by
      rcases z with z | z
      · obtain ⟨ns, st, h1, h2, _⟩ := B2.ex
        rw [z] at y
        rcases y with y | y
        · rw [y, h1] at nl; cases nl
        · rw [y, h2] at nl; cases nl
      · obtain ⟨ns1, st1, i1, i2, _⟩ := B1.ex
        obtain ⟨ns, st, h1, h2, _⟩ := B2.ex
        obtain ⟨dx9, tp9, st9, ed9, _⟩ := D2.ex
        have nG1 : ∀ c, bF bx bi c → G1 c ≠ none ∧ ∃ ys, G2 c = some (.lst ys) := fun c z => by
          rcases z with z | z <;> rw [z]
          · exact ⟨by rw [i1]; simp, _, h1⟩
          · exact ⟨by rw [i2]; simp, _, h2⟩
        obtain ⟨n1, ys, n2⟩ := nG1 b y
        rcases z with z | z | z
        · rw [z, ed9] at n2; cases n2
        · rw [z] at n1; exact n1 (upd_none (upd_none nls).2).2
        · rw [z] at n1; exact n1 (upd_none (upd_none nlu).2).2
    have TG3 : Tg (tL tp) G3 := (((TG.kp k1).kp k2H).kp kL).kp k3
    -- the stores
    refine ⟨rfl, fun G4 s r h ns' nr nh S4 k4 => ⟨sz 1 (by decide), fun S nS => ?_⟩⟩
    have kS : Kp No G4 (upd G4 S (.lst [.ref s])) := Kp.new nS
    have eS : upd G4 S (.lst [.ref s]) S = some (.lst [.ref s]) := upd_same
    generalize upd G4 S (.lst [.ref s]) = G5 at kS eS ⊢
    refine fun cd ncd => ?_
    have kC : Kp No G5 (upd G5 cd (.dK [])) := Kp.new ncd
    have eC : upd G5 cd (.dK []) cd = some (.dK []) := upd_same
    generalize upd G5 cd (.dK []) = G6 at kC eC ⊢
    have k36 : Kp No G3 G6 := (k4.trans kS fun _ z => False.elim z).trans kC fun _ z => False.elim z
    have new3 : ∀ c, G3 c = none → ¬ lF l a c := fun c z y => by
      obtain ⟨o, eo⟩ := L3.there y
      rw [z] at eo; cases eo
    have S6 : StL G6 s r h TT.new 0 := (S4.no kS).no kC
    have nSt : ∀ x, (x = s ∨ x = r ∨ x = h) → x ≠ cd := fun x z y => by
      have S5 := S4.no kS
      obtain ⟨_, q1⟩ := S5.rows.dc
      obtain ⟨_, q2⟩ := S5.hands.dc
      rcases z with z | z | z
      · rw [← y, z, S5.dc] at ncd; cases ncd
      · rw [← y, z, q1] at ncd; cases ncd
      · rw [← y, z, q2] at ncd; cases ncd
    have cd3 : G3 cd = none := k4.free (kS.free ncd fun z => False.elim z) fun z => False.elim z
    have S3 : G3 S = none := k4.free nS fun z => False.elim z
    have Z0 : LZ A K tp G6 bx bi l S cd a TT.new m s r h [] 0 (60 * 51) := ⟨L3.kt k36.t (fun _ z => False.elim z), en3, ⟨⟨[], kC.t.lst eS (fun z => z), rfl⟩, S6⟩, Bd.new, B3.no k36, TG3.kp k36, fun x z => nlB z, new3 _ S3, new_nb B3 S3, fun x z => by rcases z with z | z | z <;> rw [z] <;> exact new3 _ (by assumption),
      ⟨by rw [hcs]; rfl, eC, (fun _ z => by cases z), .nil, (fun _ z => by cases z), (fun z => z.elim (new3 _ cd3) (new_nb B3 cd3)), (fun _ z => by cases z), fun _ z => by cases z⟩, fun b z y => z.elim (fun z => nSt b y z) fun ⟨w, hw, _⟩ => by cases hw⟩
    clear k36 S6 nSt cd3 S3 L3 fa k3 TG3 B3 nlB new3 S4 k4 kS eS kC eC
    -- the turns
    refine ⟨_, rfl, bx, bi, 51, rfl, Z0.box, by decide, by decide, fun c G7 c0 c1 B7 k7 => ⟨c, rfl, by omega, by omega, for_range (lo := 0) (n := c.toNat) (fun i σ J => ∃ (S : Addr) (bgn : Int) (o6 o7 o8 : Option V) (a : La) (t : TT) (m : M) (s r h : Addr) (ws : List Lc), σ = [some (.ref sc), some (.ref bx), some (.ref l), some (.ref S), some (.ref cd), some (.int bgn), o6, o7, o8] ∧ LZ A K tp J bx bi l S cd a t m s r h ws i (60 * (51 - i)) ∧ 0 ≤ bgn ∧ bgn ≤ 6 ∧ (ws.length : Int) ≤ bgn) ⟨S, 0, _, _, _, a, TT.new, m, s, r, h, [], rfl, (Z0.take k7 B7).lee (by decide), by decide, by decide, by decide⟩ ?_ ?_⟩⟩
    · clear Z0 en3
      rintro i σ J hi ⟨S, bgn, o6, o7, o8, a, t, m, s, r, h, ws, rfl, Z, b0, b6, bl⟩
      have hi51 : i < 51 := by omega
      refine ⟨_, rfl, bx, bi, 8, rfl, Z.box, by decide, by decide, fun way G1 w0 w8 B1 k1 => ?_⟩
      have Z1 := Z.take k1 B1
      have nxt : Bd t (i + 1) := ⟨Z.bd.rows, Z.bd.n0, by have := Z.bd.n1; omega, Z.bd.m0, Z.bd.m1, Z.bd.l0⟩
      have few : ws.length < 64 := by omega
      refine ⟨_, rfl, _, _, rfl, rfl, _, rfl, ite2 (fun z => ?_) (fun z => ?_)⟩
      · -- an event
        obtain ⟨xs, x1, x2⟩ := Z1.LS.ex
        refine ⟨_, rfl, _, rfl, 1, rfl, S, _, -1, .ref s, rfl, rfl, SqL.of x1, atI_last _ _, bx, bi, s, r, h, t, 50 * i, rfl, Z1.box, Z1.LS.st, Z1.bd.rows, by omega, Z1.bd.l0, Z1.bd.m0, Z1.bd.m1, fun G2 v e B2 k2 hv hok hgp => ?_⟩
        have Z2 := Z1.take k2 B2
        have n1 := Z2.bd.n1
        refine ⟨_, rfl, _, rfl, S, s, r, h, v, t, 50 * i, e, rfl, Z2.LS, hv, hok, by omega, Z2.bd.n0, by omega, fun G3 b f s' r' h' tv k3 nf hb LS3 hsr hto htn => ⟨b, _, 1, .ref f, rfl, rfl, SqT.of hb, rfl, ?_⟩⟩
        have Z3 := Z2.no k3
        refine ⟨_, rfl, _, rfl, l, a, t, 50 * i, m, v, e, 60 * (51 - ((i + 1 : Nat) : Int)), rfl, Z3.L, Z3.tg, VtAt.no k3 hv, hok, by omega, Z3.bd.n0, Z3.en.le (by omega), by omega, fun G5 a5 m5 tw L5 en5 ad5 fa5 k5 ht5 hn5 hc5 => ?_⟩
        have nF : ∀ {c : Addr}, G2 c = none → ¬ lF l a c := fun {c} z y => by
          obtain ⟨o, eo⟩ := Z2.L.there y
          rw [z] at eo; cases eo
        have ns3 : ∀ x, (x = s' ∨ x = r' ∨ x = h') → ¬ lF l a x := fun x z => by
          rcases hsr with ⟨y1, y2, y3⟩ | ⟨y1, y2, y3⟩
          · rw [y1, y2, y3] at z
            exact Z2.ns x z
          · rcases z with z | z | z <;> rw [z] <;> exact nF (by assumption)
        have nx3 : ∀ b, (b = cd ∨ ∃ w ∈ ws, b = w.pg) → ¬ (b = s' ∨ b = r' ∨ b = h') := fun b q y => by
          rcases hsr with ⟨y1, y2, y3⟩ | ⟨y1, y2, y3⟩
          · rw [y1, y2, y3] at y
            exact Z2.nx b q y
          · obtain ⟨kvs, e1⟩ := Z2.xxx b q
            rcases y with y | y | y
            · rw [y, y1] at e1; cases e1
            · rw [y, y2] at e1; cases e1
            · rw [y, y3] at e1; cases e1
        exact ⟨f, bgn, _, _, _, a5, e.next t, m5, s', r', h', ws, rfl, Z3.event (L5.le (by omega)) en5 ⟨LS3.ex, LS3.st.le (by omega)⟩ (Z3.bd.next hok) fa5 k5 hc5.1 (nF nf) (new_nb Z2.box nf) ns3 nx3, b0, b6, bl⟩
      · by_cases h3 : way = 3
        · subst h3
          refine ⟨_, rfl, rfl, _, rfl, ?_⟩
          rw [show decide (V.int 3 = V.int 3) = true from rfl]
          refine iteT ⟨_, rfl, _, _, rfl, rfl, _, rfl, ite2 (fun q => ?_) (fun _ => page_turn Z1 few fun G a' ws' Z2 hl => ⟨S, bgn, _, _, _, a', t, m, s, r, h, ws', rfl, Z2.le (by omega) nxt, b0, b6, by omega⟩)⟩
          have q6 : bgn < 6 := by simpa using q
          obtain ⟨dx, hs, el⟩ := Z1.L.at_
          refine ⟨_, rfl, l, dx, _, rfl, el, rfl, l, a, t, 50 * i, m, rfl, Z1.L, Z1.tg, fun G2 wh l1 l2 xs zs nwh nl1 nl2 n12 k2 ewh e1 p1 e2 p2 => fun pg npg => ⟨sz 2 (by decide), fun u nu => ?_⟩⟩
          have k3 : Kp No G2 (upd (upd G2 pg (.dK [])) u (.tup [.ref wh, .ref pg])) := (Kp.new npg).andN nu
          have epg : upd (upd G2 pg (.dK [])) u (.tup [.ref wh, .ref pg]) pg = some (.dK []) := by rw [upd_ne (upd_none nu).1.symm, upd_same]
          have eu : upd (upd G2 pg (.dK [])) u (.tup [.ref wh, .ref pg]) u = some (.tup [.ref wh, .ref pg]) := upd_same
          generalize upd (upd G2 pg (.dK [])) u (.tup [.ref wh, .ref pg]) = G3 at k3 epg eu ⊢
          have k13 : Kg (tL tp) No G1 G3 := k2.trans (Kg.of k3) fun _ z => False.elim z
          have Z3 := Z1.kg k13
          have npg1 : G1 pg = none := k2.free npg fun z => False.elim z
          obtain ⟨dx3, hs3, el3⟩ := Z3.L.at_
          have wl : a.cs.length = ws.length := by rw [← Z1.C.xs, List.length_map]
          refine ⟨_, rfl, _, rfl, l, dx3, _, rfl, el3, rfl, l, a, t, 50 * i, m, rfl, Z3.L, by omega, fun G4 b x nb ex1 ex2 ex3 ex4 nx L4 k4 hb => ⟨b, _, 0, .int a.bg, rfl, rfl, SqT.of hb, rfl, ?_⟩⟩
          -- what stays
          have lsh : lF l a a.sh := .inr (.inr (.inr (.inr (.inl rfl))))
          have lcp : lF l a a.cp := .inr (.inr (.inr (.inr (.inr (.inl rfl)))))
          have fr : ∀ {c : Addr}, G1 c = none → ¬ (c = a.sh ∨ c = a.cp) := fun {c} h z => by
            obtain ⟨o, eo⟩ : ∃ o, G1 c = some o := z.elim (fun z => z ▸ Z1.L.there lsh) fun z => z ▸ Z1.L.there lcp
            rw [h] at eo; cases eo
          have ncs : ¬ (cd = a.sh ∨ cd = a.cp) := fun z => Z3.C.ncd (.inl (z.elim (fun z => z ▸ lsh) fun z => z ▸ lcp))
          have ecd4 : G4 cd = some (.dK (wK ws)) := k4.t.dK Z3.C.dic ncs
          have nm0 : ∀ y ∈ ws, y.x.nm ≠ a.bg := fun y hy e => by
            have hc : y.x ∈ a.cs := by rw [← Z1.C.xs]; exact List.mem_map.mpr ⟨y, hy, rfl⟩
            have := (Z1.L.shf.bgs y.x hc).2
            omega
          have pE : putK (wK ws) (Sum.inl a.bg) (.ref u) = wK (ws ++ [⟨x, u, wh, pg, l1, l2⟩]) := by
            rw [wK_add, show (⟨x, u, wh, pg, l1, l2⟩ : Lc).x.nm = a.bg from ex1]
            unfold putK
            rw [valV_any, wK_none nm0]
            rfl
          have kl : (wK ws).length = ws.length := by unfold wK; rw [List.length_map]
          refine ⟨cd, _, rfl, DPut.k (k := Sum.inl a.bg) ecd4 (szL (by rw [kl]; omega)), ?_⟩
          rw [pE]
          have k5 : Kp (fun b => b = cd) G4 (upd G4 cd (.dK (wK (ws ++ [⟨x, u, wh, pg, l1, l2⟩])))) := Kp.updD ecd4 rfl
          have e5 : upd G4 cd (.dK (wK (ws ++ [⟨x, u, wh, pg, l1, l2⟩]))) cd = some (.dK (wK (ws ++ [⟨x, u, wh, pg, l1, l2⟩]))) := upd_same
          generalize upd G4 cd (.dK (wK (ws ++ [⟨x, u, wh, pg, l1, l2⟩]))) = G5 at k5 e5 ⊢
          have c1 : ∀ {c : Addr}, G1 c = none → ¬ c = cd := fun {c} h z => by rw [z, Z1.C.dic] at h; cases h
          have kF : Kt (fun b => b = cd ∨ b = a.sh ∨ b = a.cp) G3 G5 := ((k4.sub (F' := fun b => b = cd ∨ b = a.sh ∨ b = a.cp) fun _ z => .inr z).trans k5 fun b z => .inl (.inl z)).t
          have stay : ∀ {c : Addr}, G1 c = none → ¬ (c = cd ∨ c = a.sh ∨ c = a.cp) := fun h z => z.elim (c1 h) (fr h)
          have L5 := L4.kt k5.t fun b z y => Z3.C.ncd (.inl (by
            rw [← show b = cd from z]
            rcases y with y | y | y | y | y | y | ⟨y, hy, q⟩
            · exact .inl y
            · exact .inr (.inl y)
            · exact .inr (.inr (.inl y))
            · exact .inr (.inr (.inr (.inl y)))
            · exact .inr (.inr (.inr (.inr (.inl y))))
            · exact .inr (.inr (.inr (.inr (.inr (.inl y)))))
            · rcases List.mem_append.mp hy with h | h
              · exact .inr (.inr (.inr (.inr (.inr (.inr ⟨y, h, q⟩)))))
              · rw [List.mem_singleton.mp h] at q
                have := nx b q
                rw [show b = cd from z, Z3.C.dic] at this
                cases this))
          have W : WcAt G5 ⟨x, u, wh, pg, l1, l2⟩ := by
            refine ⟨kF.tup eu, ?_, ⟨xs, kF.lst (k3.t.lst e1 fun z => z) (stay nl1), ?_⟩, ⟨zs, kF.lst (k3.t.lst e2 fun z => z) (stay nl2), ?_⟩, ⟨[], kF.dK epg (stay npg1), ⟨[], rfl, .nil, fun _ z => by cases z⟩, fun p h0 h8 => ⟨fun _ => rfl, fun n => ?_⟩⟩, ?_⟩
            · show G5 wh = some (.tup [.int x.t0.mom, .ref l1, .ref l2])
              rw [ex3]
              exact kF.tup (k3.t.tup ewh)
            · show Paired (RwV G5) xs (whRows x.t0 8)
              rw [ex3]
              exact p1.mono fun _ _ z => (z.kt k3.t).kt kF
            · show Paired (RhV G5) zs (hnRows x.t0.hands)
              rw [ex3]
              exact p2.mono fun _ _ z => (z.kt k3.t).kt kF
            · refine absurd ?_ n
              show p ∈ x.want
              rw [ex4]
              unfold keysFrom
              exact List.mem_map.mpr ⟨p.toNat, List.mem_range.mpr (by omega), by omega⟩
            · show x.want ≠ []
              rw [ex4]
              decide
          have k15 : Kg (tL tp) (fun b => b = cd ∨ b = a.sh ∨ b = a.cp) G1 G5 := ((k13.sub (F' := fun b => b = cd ∨ b = a.sh ∨ b = a.cp) fun _ z => False.elim z).trans (Kg.of (k4.sub (F' := fun b => b = cd ∨ b = a.sh ∨ b = a.cp) fun _ z => .inr z)) fun b z => .inl z).trans (Kg.of k5) fun b z => .inl (.inl z)
          have Z5 := Z1.copy (x := x) (u := u) (wh := wh) (pg := pg) (l1 := l1) (l2 := l2) L5 k15 ex1 ex3 (fun b q => by
            have h3 := nx b q
            exact ⟨k13.free h3 fun z => False.elim z, (fun z => by rw [z, epg] at h3; cases h3), (fun z => by rw [z, k3.t.lst e1 fun z => z] at h3; cases h3), (fun z => by rw [z, k3.t.lst e2 fun z => z] at h3; cases h3)⟩) npg1 nl1 nl2 W e5
          refine ⟨_, rfl, _, _, rfl, rfl, ?_⟩
          exact ⟨S, bgn + 1, _, _, _, _, t, m, s, r, h, _, rfl, Z5.le (by omega) nxt, by omega, by omega, by rw [List.length_append]; simp only [List.length_cons, List.length_nil]; omega⟩
        · refine ⟨_, rfl, rfl, _, rfl, ?_⟩
          rw [show decide (V.int way = V.int 3) = false by simp; exact h3]
          exact iteF (iteF (page_turn Z1 few fun G a' ws' Z2 hl => ⟨S, bgn, _, _, _, a', t, m, s, r, h, ws', rfl, Z2.le (by omega) nxt, b0, b6, by omega⟩))
    · rintro σ J ⟨S, bgn, o6, o7, o8, a, t, m, s, r, h, ws, rfl, Z, b0, b6, bl⟩
      -- what is open is read
      refine ⟨fun n σ J => ∃ (a : La) (ws : List Lc) (o6 o7 o8 : Option V), σ = [some (.ref sc), some (.ref bx), some (.ref l), some (.ref S), some (.ref cd), some (.int bgn), o6, o7, o8] ∧ (∃ i e, LZ A K tp J bx bi l S cd a t m s r h ws i e) ∧ ws.length ≤ 6 ∧ n = wsum ws, ⟨_, a, ws, _, _, _, rfl, ⟨_, _, Z⟩, by omega, rfl⟩, ?_⟩
      clear Z bl o6 o7 o8 a ws
      rintro n σ J ⟨a, ws, o6, o7, o8, rfl, ⟨i, e, Z⟩, few, rfl⟩
      refine ⟨_, rfl, fun q nq => ?_⟩
      have kq : Kp No J (upd J q (.dK [])) := Kp.new nq
      have Z1 := Z.no kq
      refine ⟨cd, q, wK ws, rfl, rfl, Z1.C.dic, upd_same, _, rfl, ?_⟩
      rw [wK_nil]
      by_cases hne : ws = []
      · subst hne
        refine iteF ?_
        generalize upd J q (.dK []) = G1 at Z1 ⊢
        have ec : a.cs = [] := Z1.C.xs.symm
        obtain ⟨dx, hs, el⟩ := Z1.L.at_
        refine ⟨_, rfl, l, dx, _, rfl, el, rfl, l, a, t, 50 * i, m, rfl, Z1.L, by rw [ec]; decide, fun G b xs ys hby nb kG hb hp => ⟨sz 0 (by decide), fun q2 nq2 => ?_⟩⟩
        have ey : ys = [] := by
          have := hby.1
          rw [ec] at this
          exact List.perm_nil.mp this
        rw [ey] at hp
        obtain rfl : xs = [] := by cases hp; rfl
        have k2 : Kp No G (upd G q2 (.lst [])) := Kp.new nq2
        have D1 : Dt K (upd G q2 (.lst [])) 2 (.ref b) (.list []) := Dt.lst (k2.t.lst hb fun z => z) (DtA.nil 1)
        have D2 : Dt K (upd G q2 (.lst [])) 2 (.ref q2) (.list []) := Dt.lst upd_same (DtA.nil 1)
        refine ⟨_, _, D1.1, D2.1, D1.shaped (by decide), D2.shaped (by decide), true, by rw [D1.same], iteT ?_⟩
        have Z2 := (Z1.no kG).no k2
        obtain ⟨dx2, hs2, el2⟩ := Z2.L.at_
        refine ⟨_, rfl, l, dx2, _, rfl, el2, rfl, l, a, t, 50 * i, m, rfl, Z2.L, ec, fun G' b' k' nb' kG' hb' => ⟨b', _, 0, .int 0, rfl, rfl, SqT.of hb', rfl, rfl, ?_⟩⟩
        exact k _
      · refine (show (if (!ws.isEmpty) = true then _ else _) from ?_)
        rw [show (!ws.isEmpty) = true by cases ws with | nil => exact absurd rfl hne | cons _ _ => rfl]
        refine iteT ⟨fun σ J' => ∃ (a' : La) (ws' : List Lc), σ = [some (.ref sc), some (.ref bx), some (.ref l), some (.ref S), some (.ref cd), some (.int bgn), o6, o7, o8] ∧ LZ A K tp J' bx bi l S cd a' t m s r h ws' i e ∧ wsum ws' < wsum ws ∧ ws'.length ≤ ws.length, ?_, ?_⟩
        · rintro σ' J' ⟨a', ws', rfl, Z', h1, h2⟩
          exact ⟨_, h1, a', ws', _, _, _, rfl, ⟨_, _, Z'⟩, by omega, rfl⟩
        · exact page_go Z1 hne (by omega) fun G a' ws' Z2 h1 h2 => ⟨a', ws', rfl, Z2, h1, h2⟩
end
end S02

set_option Elab.async false
set_option linter.all false
set_option maxRecDepth 100000
set_option maxHeartbeats 2000000
/-! ### what these facts say -/
namespace S02
open PySem PySem.Spec PyProof.Rows L2 K5 SupX
section
variable {K : PySem.W.Frag}
theorem itsOf_ok {a : Addr} {vs : List Value} (h : itsOf K a = some vs) {xs : List V} (r : Vals xs vs) : WT K a xs := by
  unfold itsOf at h
  split at h
  · rename_i c d its n sl e
    split at h
    · rename_i z
      cases h
      refine ⟨_, its, n, e, congrArg Value.type z.1, rfl, ?_, r⟩
      have := z.2
      rw [sizeLine_eq]
      omega
    · cases h
  · cases h
theorem prB_ok {v : Value} {p : Int × Int} (h : prB K v p = true) : ∃ a, v = .ref a ∧ WT K a [.int p.1, .int p.2] := by
  unfold prB at h
  split at h
  · rename_i a
    split at h
    · rename_i i ti j tj e
      obtain ⟨h1, h2⟩ := Bool.and_eq_true_iff.mp h
      rw [← of_decide_eq_true h1, ← of_decide_eq_true h2]
      exact ⟨a, rfl, itsOf_ok e (.cons ⟨ti, rfl⟩ (.cons ⟨tj, rfl⟩ .nil))⟩
    · cases h
  · cases h
theorem prsB_ok : ∀ {vs : List Value} {ps : List (Int × Int)}, prsB K vs ps = true → ∃ as : List Addr, vs = as.map Value.ref ∧ Paired (fun a p => WT K a [.int p.1, .int p.2]) as ps
  | [], [], _ => ⟨[], rfl, .nil⟩
  | [], _ :: _, h => by cases h
  | _ :: _, [], h => by cases h
  | v :: vs, p :: ps, h => by
    obtain ⟨h1, h2⟩ := Bool.and_eq_true_iff.mp (show (prB K v p && prsB K vs ps) = true from h)
    obtain ⟨a, e, w⟩ := prB_ok h1
    obtain ⟨as, e2, w2⟩ := prsB_ok h2
    exact ⟨a :: as, by rw [e, e2]; rfl, .cons w w2⟩
theorem vals_refs : ∀ as : List Addr, Vals (as.map V.ref) (as.map Value.ref)
  | [] => .nil
  | _ :: as => .cons rfl (vals_refs as)
theorem bdB_ok {b : Addr} {l : List (Int × Int)} (h : bdB K b l = true) : BndAt K b l := by
  unfold bdB at h
  split at h
  · rename_i vs e
    obtain ⟨as, e2, w⟩ := prsB_ok h
    exact ⟨as, itsOf_ok e (by rw [e2]; exact vals_refs as), w⟩
  · cases h
theorem boundsB_ok {x : Str} {l : List (Int × Int)} (h : boundsB K x l = true) : ∃ b, PySem.W.nsIn K (gB K) x = some (some (.ref b)) ∧ BndAt K b l := by
  obtain ⟨h1, h2⟩ := Bool.and_eq_true_iff.mp (show (isA K (gB K) x (vA K (gB K) x) && bdB K (vA K (gB K) x) l) = true from h)
  exact ⟨_, of_decide_eq_true h1, bdB_ok h2⟩
theorem initB_ok {P : Program} {st : Stmt} (hf : P.main.file = ("/claim/cut.py" : Str)) (e : fnY K = (some ("__init__", "BadDeal.__init__", defArgs st, .stmts (defBody st), defScope st, mainGlobals, ["__class__"], .none, builtinsNs) : FnY)) (h : initB K = true) :
    InitAt P K (gX K) (gI K) "BadDeal.__init__" st := by
  obtain ⟨h1, h⟩ := Bool.and_eq_true_iff.mp h
  obtain ⟨h2, h3⟩ := Bool.and_eq_true_iff.mp h
  refine ⟨?_, of_decide_eq_true h2, of_decide_eq_true h3⟩
  unfold fnY at e
  unfold funB at h1
  split at h1
  · rename_i oc od fd osl lk
    rw [lk] at e
    obtain ⟨c1, h1⟩ := Bool.and_eq_true_iff.mp h1
    obtain ⟨c2, c3⟩ := Bool.and_eq_true_iff.mp h1
    obtain ⟨n1, n2, n3, n4, n5, n6, n7, n8, n9, n10, n11, n12, n13, n14, n15⟩ := fd
    have e2 := Option.some.inj e
    simp only [Prod.mk.injEq] at e2
    obtain ⟨q1, q2, q3, q4, q5, q6, q7, q8, q9⟩ := e2
    subst q1 q2 q3 q4 q5 q6 q8 q9
    unfold cellB at c1
    split at c1
    · rename_i x cc lc
      split at c1
      · rename_i cl cld D csl e4
        have eD : D = gX K := of_decide_eq_true c1
        subst eD
        dsimp only at lc
        rw [lc] at q7
        have ex : x = "__class__" := List.head_eq_of_cons_eq (show [x] = [("__class__" : Str)] from q7)
        unfold fileB at c3
        split at c3
        · rename_i cda ecd
          split at c3
          · rename_i ccl cdd vs ccs e5
            split at c3
            · rename_i file tf e6
              dsimp only at c2 ecd
              subst lc ecd ex
              exact ⟨oc, od, n9, n10, n11, n12, cda, cc, n14, osl, ccl, cdd, vs, ccs, file, tf, cl, cld, csl, lk, c2, e5, e6, by rw [hf]; exact c3, e4⟩
            · cases c3
          · cases c3
        · cases c3
      · cases c1
    · cases c1
  · cases h1
theorem slB_ok {l : List (Option Value)} (h : slB l = true) : ∃ k0 k1 k2 k3 k5, l = [k0, k1, k2, k3, some (Value.builtin "ValueError.__new__"), k5] := by
  unfold slB at h
  split at h
  · rename_i k0 k1 k2 k3 n k5
    rw [of_decide_eq_true h]
    exact ⟨k0, k1, k2, k3, k5, rfl⟩
  · cases h
theorem mroB_ok {C : Addr} {l : List Value} (h : mroB C l = true) : ∃ bm, l = .ref C :: bm ∧ PySem.HandSPX.refsVE bm = true := by
  unfold mroB at h
  split at h
  · rename_i D bm
    obtain ⟨h1, h2⟩ := Bool.and_eq_true_iff.mp h
    rw [of_decide_eq_true h1]
    exact ⟨bm, rfl, h2⟩
  · cases h
theorem cdB_ok {C : Addr} {cd : ClassData} {sl : Array (Option Value)} {dd : Option Addr} (h : cdB C cd sl = true) :
    ∃ nm q N bs bm sn sub ab col k0 k1 k2 k3 k5, (⟨.type "type", dd, .cls cd, sl⟩ : Obj) = excClassObj nm q C N bs bm true sn sub ab col dd k0 k1 k2 k3 k5 "ValueError.__new__" ∧ PySem.HandSPX.refsVE bm = true := by
  obtain ⟨z1, h⟩ := Bool.and_eq_true_iff.mp h
  obtain ⟨z2, h⟩ := Bool.and_eq_true_iff.mp h
  obtain ⟨z3, z4⟩ := Bool.and_eq_true_iff.mp h
  obtain ⟨bm, hm, hv⟩ := mroB_ok z1
  obtain ⟨k0, k1, k2, k3, k5, hs⟩ := slB_ok z4
  obtain ⟨nm, bs, mro, ns, qn, hd, sn, sub, ab, col, del⟩ := cd
  dsimp only at hm z2 z3
  subst hm z2
  have ed : del = false := by
    cases del
    · rfl
    · cases z3
  subst ed
  obtain ⟨l⟩ := sl
  dsimp only at hs
  subst hs
  exact ⟨nm, qn, ns, bs, bm, sn, sub, ab, col, k0, k1, k2, k3, k5, rfl, hv⟩
theorem clO_ok {K : PySem.W.Frag} {C : Addr} (h : clO K C = true) : ∃ nm q N bs bm sn sub ab col dd k0 k1 k2 k3 k5, K.lookup C = some (excClassObj nm q C N bs bm true sn sub ab col dd k0 k1 k2 k3 k5 "ValueError.__new__") ∧ PySem.HandSPX.refsVE bm = true := by
  unfold clO at h
  split at h
  · rename_i t dd cd sl lk
    obtain ⟨h1, h2⟩ := Bool.and_eq_true_iff.mp h
    rw [of_decide_eq_true h1] at lk
    obtain ⟨nm, q, N, bs, bm, sn, sub, ab, col, k0, k1, k2, k3, k5, e, hv⟩ := cdB_ok (dd := dd) h2
    exact ⟨nm, q, N, bs, bm, sn, sub, ab, col, dd, k0, k1, k2, k3, k5, lk.trans (congrArg some e), hv⟩
  · cases h
theorem oexB_ok {K : PySem.W.Frag} {C : Addr} (h : oexB K C = true) : OexC K C := by
  obtain ⟨h1, h⟩ := Bool.and_eq_true_iff.mp h
  obtain ⟨h2, h⟩ := Bool.and_eq_true_iff.mp h
  obtain ⟨h3, h⟩ := Bool.and_eq_true_iff.mp h
  obtain ⟨h4, h5⟩ := Bool.and_eq_true_iff.mp h
  obtain ⟨nm, q, N, bs, bm, sn, sub, ab, col, dd, k0, k1, k2, k3, k5, lk, hv⟩ := clO_ok h1
  exact ⟨⟨nm, q, N, bs, bm, sn, sub, ab, col, dd, k0, k1, k2, k3, k5, lk, hv⟩, of_decide_eq_true h2, of_decide_eq_true h3, of_decide_eq_true h4, h5⟩
theorem clsB_ok {mg : Str → Option Value} (hs : mg "super" = none) (h : clsB K = true) : ClsAt K mg (gX K) "place" := by
  obtain ⟨h1, h⟩ := Bool.and_eq_true_iff.mp h
  obtain ⟨h2, h⟩ := Bool.and_eq_true_iff.mp h
  obtain ⟨h3, h⟩ := Bool.and_eq_true_iff.mp h
  obtain ⟨h4, h⟩ := Bool.and_eq_true_iff.mp h
  obtain ⟨h5, h6⟩ := Bool.and_eq_true_iff.mp h
  exact ⟨oexB_ok h1, of_decide_eq_true h2, of_decide_eq_true h3, of_decide_eq_true h4, of_decide_eq_true h5, of_decide_eq_true h6, hs⟩
theorem z9B_ok : ∀ {vs : List Value} {n : Nat}, z9B vs n = true → Vals ((List.replicate n (0 : Int)).map V.int) vs
  | [], 0, _ => .nil
  | .int i t :: vs, n + 1, h => by
    obtain ⟨h1, h2⟩ := Bool.and_eq_true_iff.mp (show (decide (i = 0) && z9B vs n) = true from h)
    have e := of_decide_eq_true h1
    subst e
    exact .cons ⟨t, rfl⟩ (z9B_ok h2)
theorem plB_ok {p : Addr} (h : plB K p = true) : WT K p ((List.replicate 9 (0 : Int)).map V.int) := by
  unfold plB at h
  split at h
  · rename_i vs e
    exact itsOf_ok e (z9B_ok h)
  · cases h
theorem rtB_ok (h : rtB K = true) : WT K (gN K) [.int 0, .int 0, .ref (pAt K)] := by
  unfold rtB at h
  split at h
  · rename_i i ti j tj p e
    obtain ⟨h1, h⟩ := Bool.and_eq_true_iff.mp h
    obtain ⟨h2, h3⟩ := Bool.and_eq_true_iff.mp h
    have e3 := of_decide_eq_true h3
    have e1 := of_decide_eq_true h1
    have e2 := of_decide_eq_true h2
    subst e1 e2
    rw [← e3]
    exact itsOf_ok e (.cons ⟨ti, rfl⟩ (.cons ⟨tj, rfl⟩ (.cons rfl .nil)))
  · cases h
end
end S02

set_option Elab.async false
set_option linter.all false
set_option maxRecDepth 100000
set_option maxHeartbeats 8000000
namespace S02
open PySem PySem.Spec PyProof.Rows L2 LamX K5 SupX
section
variable {K : PySem.W.Frag} {x q : Str} {st : Stmt} {f : Addr}
theorem fun_ofD (F : ∃ fd, FunD K x q (defArgs st) (defBody st) (defScope st) [] [] f fd) : ∃ fd, Fun K x q st f fd := by
  obtain ⟨fd, F⟩ := F
  obtain ⟨oc, od, dV, kV, doc, pm, an, cdv, ct, osl, rfl, lk, hcd, hD, _⟩ := F.ex
  rcases hD with ⟨_, rfl⟩ | ⟨e, _⟩
  · exact ⟨_, fun_mk lk hcd F.kp⟩
  · exact absurd rfl e
theorem fnC_ofD {p : Str × Option Str} (F : ∃ fd, FunD K x q (defArgs st) (defBody st) (defScope st) [] [] (He.fAd K p) fd) : FnC K x q st (He.fAd K p) (He.cT K p).1 := by
  obtain ⟨fd, F⟩ := F
  obtain ⟨oc, od, dV, kV, doc, pm, an, cdv, ct, osl, rfl, lk, hcd, hD, _⟩ := F.ex
  rcases hD with ⟨_, rfl⟩ | ⟨e, _⟩
  · obtain ⟨c, rfl⟩ := He.codeIn_ref hcd
    have e : He.codeOf K p = c := He.codeOf_eq lk rfl
    subst e
    exact ⟨⟨_, _, _, _, _, _, _, _, lk, hcd⟩, F.kp⟩
  · exact absurd rfl e
theorem mk_meth {C : Addr} (M : Mk K C f) (F : ∃ fd, Fun K "__init__" q st f fd) : Meth K C "__init__" f := by
  obtain ⟨_, F⟩ := F
  exact ⟨M.init, M.fn, F.kp⟩
end
def adOf (K : PySem.W.Frag) : Ad := ⟨(fun i => match i with | 25 => He.ga K "within" | 31 => He.ga K "check_hand" | 32 => He.ga K "check_key" | 33 => He.ga K "is_deed" | 34 => He.ga K "check_deal" | 35 => He.ga K "is_shown" | 36 => He.ga K "shown_worth" | 37 => He.ga K "put_row" | 38 => He.ga K "drop_row" | 39 => He.ga K "add_to_row" | 40 => He.ga K "does_show" | 42 => He.ga K "rows_behind" | 50 => He.ga K "entry_block" | 51 => He.ga K "page_block" | 54 => He.ga K "check_page" | 59 => He.ga K "is_too_heavy" | 60 => He.ga K "check_block" | 63 => He.ga K "_law_begun" | 64 => He.ga K "_law_take" | 65 => He.ga K "_law_store" | 66 => He.ga K "_law_again" | 67 => He.ga K "_law_seen" | 68 => He.ga K "_law_tried" | 69 => He.ga K "_law_deal" | 70 => He.ga K "_law_whole" | 71 => He.ga K "_law_deed" | 72 => He.ga K "_law_drawn" | 73 => He.ga K "_law_group" | 74 => He.ga K "_law_event" | 75 => He.ga K "_law_behind" | 76 => He.ga K "_law_do" | 77 => He.ga K "_law_joined" | 78 => He.ga K "_law_page" | 79 => He.ga K "law" | _ => 0), (fun i => match i with | 2 => He.ga K "StillError" | 3 => He.ga K "BadDeal" | 4 => He.ga K "BadHand" | 5 => He.ga K "BadLetter" | 6 => He.ga K "BadTime" | 7 => He.ga K "BadKey" | 8 => He.ga K "BadHouse" | 9 => He.ga K "NoCopy" | 10 => He.ga K "Behind" | 11 => He.ga K "BadBlock" | 12 => He.ga K "Stopped" | 27 => He.ga K "Copy" | 28 => He.ga K "Shelf" | 44 => He.ga K "Table" | 52 => He.ga K "Store" | 55 => He.ga K "Lead" | 61 => He.ga K "Disk" | _ => 0), (fun i j => match i, j with | 27, 0 => He.ma K (He.ga K "Copy") "__init__" | 27, 1 => He.ma K (He.ga K "Copy") "page_of" | 27, 2 => He.ma K (He.ga K "Copy") "follow" | 27, 3 => He.ma K (He.ga K "Copy") "let_go" | 28, 0 => He.ma K (He.ga K "Shelf") "__init__" | 28, 1 => He.ma K (He.ga K "Shelf") "begin" | 28, 2 => He.ma K (He.ga K "Shelf") "find_copy" | 28, 3 => He.ma K (He.ga K "Shelf") "read_out" | 28, 4 => He.ma K (He.ga K "Shelf") "give_up" | 28, 5 => He.ma K (He.ga K "Shelf") "follow" | 28, 6 => He.ma K (He.ga K "Shelf") "listed" | 28, 7 => He.ma K (He.ga K "Shelf") "count_aside" | 44, 0 => He.ma K (He.ga K "Table") "__init__" | 44, 1 => He.ma K (He.ga K "Table") "twin" | 44, 2 => He.ma K (He.ga K "Table") "take" | 44, 3 => He.ma K (He.ga K "Table") "take_deal" | 44, 4 => He.ma K (He.ga K "Table") "told_of" | 44, 5 => He.ma K (He.ga K "Table") "told_whole" | 44, 6 => He.ma K (He.ga K "Table") "last_letter" | 44, 7 => He.ma K (He.ga K "Table") "page_rows" | 44, 8 => He.ma K (He.ga K "Table") "hand_rows" | 44, 9 => He.ma K (He.ga K "Table") "kept" | 44, 10 => He.ma K (He.ga K "Table") "shown" | 44, 11 => He.ma K (He.ga K "Table") "unlike" | 44, 12 => He.ma K (He.ga K "Table") "fill" | 44, 13 => He.ma K (He.ga K "Table") "shed" | 52, 0 => He.ma K (He.ga K "Store") "__init__" | 52, 1 => He.ma K (He.ga K "Store") "claim" | 52, 2 => He.ma K (He.ga K "Store") "put" | 52, 3 => He.ma K (He.ga K "Store") "check_held" | 52, 4 => He.ma K (He.ga K "Store") "write_root" | 52, 5 => He.ma K (He.ga K "Store") "stored_table" | 52, 6 => He.ma K (He.ga K "Store") "last_entries" | 52, 7 => He.ma K (He.ga K "Store") "put_aside" | 52, 8 => He.ma K (He.ga K "Store") "gathered_pages" | 55, 0 => He.ma K (He.ga K "Lead") "__init__" | 55, 1 => He.ma K (He.ga K "Lead") "known" | 55, 2 => He.ma K (He.ga K "Lead") "clock" | 55, 3 => He.ma K (He.ga K "Lead") "deals" | 55, 4 => He.ma K (He.ga K "Lead") "deal" | 55, 5 => He.ma K (He.ga K "Lead") "tick" | 55, 6 => He.ma K (He.ga K "Lead") "read" | 55, 7 => He.ma K (He.ga K "Lead") "whole" | 55, 8 => He.ma K (He.ga K "Lead") "tidy" | 55, 9 => He.ma K (He.ga K "Lead") "kept_rows" | 55, 10 => He.ma K (He.ga K "Lead") "copy" | 55, 11 => He.ma K (He.ga K "Lead") "read_page" | 55, 12 => He.ma K (He.ga K "Lead") "close" | 55, 13 => He.ma K (He.ga K "Lead") "open_copies" | 55, 14 => He.ma K (He.ga K "Lead") "room" | 55, 15 => He.ma K (He.ga K "Lead") "letters" | 55, 16 => He.ma K (He.ga K "Lead") "heard" | 55, 17 => He.ma K (He.ga K "Lead") "check_house" | 55, 18 => He.ma K (He.ga K "Lead") "check_group" | 55, 19 => He.ma K (He.ga K "Lead") "change_over" | 61, 0 => He.ma K (He.ga K "Disk") "__init__" | 61, 1 => He.ma K (He.ga K "Disk") "write" | 61, 2 => He.ma K (He.ga K "Disk") "settle" | 61, 3 => He.ma K (He.ga K "Disk") "read" | 61, 4 => He.ma K (He.ga K "Disk") "arm" | 61, 5 => He.ma K (He.ga K "Disk") "stop" | 61, 6 => He.ma K (He.ga K "Disk") "again" | 61, 7 => He.ma K (He.ga K "Disk") "settled" | 61, 8 => He.ma K (He.ga K "Disk") "check_running" | 61, 9 => He.ma K (He.ga K "Disk") "count_deed" | _, _ => 0), (fun i j => match i, j with | 44, 7 => (He.cT K ("Table", some "page_rows")).1 | 44, 8 => (He.cT K ("Table", some "hand_rows")).1 | 44, 10 => (He.cT K ("Table", some "shown")).1 | _, _ => 0)⟩
theorem txt_of {w : World} {K : PySem.W.Frag} {h : Heap} {mg : Str → Option Value} (X : K.In h) (G : h.Ns mainGlobals mg) (c : SaysY fa fn ts tf exB fy w h K) : Txt K mg (adOf K) :=
  let d := c.x.t.d
  {
    within := ⟨fun_ofD (d.def_ 0 rfl), He.glo_ok X G (d.fact 0 (f := .glo "within") rfl)⟩,
    check_hand := ⟨fun_ofD (d.def_ 1 rfl), He.glo_ok X G (d.fact 1 (f := .glo "check_hand") rfl)⟩,
    check_key := ⟨fun_ofD (d.def_ 2 rfl), He.glo_ok X G (d.fact 2 (f := .glo "check_key") rfl)⟩,
    is_deed := ⟨fun_ofD (d.def_ 3 rfl), He.glo_ok X G (d.fact 3 (f := .glo "is_deed") rfl)⟩,
    check_deal := ⟨fun_ofD (d.def_ 4 rfl), He.glo_ok X G (d.fact 4 (f := .glo "check_deal") rfl)⟩,
    is_shown := ⟨fun_ofD (d.def_ 5 rfl), He.glo_ok X G (d.fact 5 (f := .glo "is_shown") rfl)⟩,
    shown_worth := ⟨fun_ofD (d.def_ 6 rfl), He.glo_ok X G (d.fact 6 (f := .glo "shown_worth") rfl)⟩,
    put_row := ⟨fun_ofD (d.def_ 7 rfl), He.glo_ok X G (d.fact 7 (f := .glo "put_row") rfl)⟩,
    drop_row := ⟨fun_ofD (d.def_ 8 rfl), He.glo_ok X G (d.fact 8 (f := .glo "drop_row") rfl)⟩,
    add_to_row := ⟨fun_ofD (d.def_ 9 rfl), He.glo_ok X G (d.fact 9 (f := .glo "add_to_row") rfl)⟩,
    does_show := ⟨fun_ofD (d.def_ 10 rfl), He.glo_ok X G (d.fact 10 (f := .glo "does_show") rfl)⟩,
    rows_behind := ⟨fun_ofD (d.def_ 11 rfl), He.glo_ok X G (d.fact 11 (f := .glo "rows_behind") rfl)⟩,
    entry_block := ⟨fun_ofD (d.def_ 12 rfl), He.glo_ok X G (d.fact 12 (f := .glo "entry_block") rfl)⟩,
    page_block := ⟨fun_ofD (d.def_ 13 rfl), He.glo_ok X G (d.fact 13 (f := .glo "page_block") rfl)⟩,
    check_page := ⟨fun_ofD (d.def_ 14 rfl), He.glo_ok X G (d.fact 14 (f := .glo "check_page") rfl)⟩,
    is_too_heavy := ⟨fun_ofD (d.def_ 15 rfl), He.glo_ok X G (d.fact 15 (f := .glo "is_too_heavy") rfl)⟩,
    check_block := ⟨fun_ofD (d.def_ 16 rfl), He.glo_ok X G (d.fact 16 (f := .glo "check_block") rfl)⟩,
    begun := ⟨fun_ofD (d.def_ 17 rfl), He.glo_ok X G (d.fact 17 (f := .glo "_law_begun") rfl)⟩,
    take := ⟨fun_ofD (d.def_ 18 rfl), He.glo_ok X G (d.fact 18 (f := .glo "_law_take") rfl)⟩,
    store := ⟨fun_ofD (d.def_ 19 rfl), He.glo_ok X G (d.fact 19 (f := .glo "_law_store") rfl)⟩,
    again := ⟨fun_ofD (d.def_ 20 rfl), He.glo_ok X G (d.fact 20 (f := .glo "_law_again") rfl)⟩,
    seen := ⟨fun_ofD (d.def_ 21 rfl), He.glo_ok X G (d.fact 21 (f := .glo "_law_seen") rfl)⟩,
    tried := ⟨fun_ofD (d.def_ 22 rfl), He.glo_ok X G (d.fact 22 (f := .glo "_law_tried") rfl)⟩,
    deal := ⟨fun_ofD (d.def_ 23 rfl), He.glo_ok X G (d.fact 23 (f := .glo "_law_deal") rfl)⟩,
    whole := ⟨fun_ofD (d.def_ 24 rfl), He.glo_ok X G (d.fact 24 (f := .glo "_law_whole") rfl)⟩,
    deed := ⟨fun_ofD (d.def_ 25 rfl), He.glo_ok X G (d.fact 25 (f := .glo "_law_deed") rfl)⟩,
    drawn := ⟨fun_ofD (d.def_ 26 rfl), He.glo_ok X G (d.fact 26 (f := .glo "_law_drawn") rfl)⟩,
    group := ⟨fun_ofD (d.def_ 27 rfl), He.glo_ok X G (d.fact 27 (f := .glo "_law_group") rfl)⟩,
    event := ⟨fun_ofD (d.def_ 28 rfl), He.glo_ok X G (d.fact 28 (f := .glo "_law_event") rfl)⟩,
    behind := ⟨fun_ofD (d.def_ 29 rfl), He.glo_ok X G (d.fact 29 (f := .glo "_law_behind") rfl)⟩,
    do_ := ⟨fun_ofD (d.def_ 30 rfl), He.glo_ok X G (d.fact 30 (f := .glo "_law_do") rfl)⟩,
    joined := ⟨fun_ofD (d.def_ 31 rfl), He.glo_ok X G (d.fact 31 (f := .glo "_law_joined") rfl)⟩,
    page := ⟨fun_ofD (d.def_ 32 rfl), He.glo_ok X G (d.fact 32 (f := .glo "_law_page") rfl)⟩,
    law := ⟨fun_ofD (d.def_ 33 rfl), He.glo_ok X G (d.fact 33 (f := .glo "law") rfl)⟩,
    c_StillError := He.glo_ok X G (d.fact 34 (f := .glo "StillError") rfl),
    c_BadDeal := He.glo_ok X G (d.fact 35 (f := .glo "BadDeal") rfl),
    x_BadHand := ⟨He.glo_ok X G (d.fact 36 (f := .glo "BadHand") rfl), (He.exc_ok (d.fact 51 (f := .exc "BadHand") rfl)).1, (He.exc_ok (d.fact 51 (f := .exc "BadHand") rfl)).2.1, (He.exc_ok (d.fact 51 (f := .exc "BadHand") rfl)).2.2.1, (He.exc_ok (d.fact 51 (f := .exc "BadHand") rfl)).2.2.2⟩,
    x_BadLetter := ⟨He.glo_ok X G (d.fact 37 (f := .glo "BadLetter") rfl), (He.exc_ok (d.fact 53 (f := .exc "BadLetter") rfl)).1, (He.exc_ok (d.fact 53 (f := .exc "BadLetter") rfl)).2.1, (He.exc_ok (d.fact 53 (f := .exc "BadLetter") rfl)).2.2.1, (He.exc_ok (d.fact 53 (f := .exc "BadLetter") rfl)).2.2.2⟩,
    x_BadTime := ⟨He.glo_ok X G (d.fact 38 (f := .glo "BadTime") rfl), (He.exc_ok (d.fact 55 (f := .exc "BadTime") rfl)).1, (He.exc_ok (d.fact 55 (f := .exc "BadTime") rfl)).2.1, (He.exc_ok (d.fact 55 (f := .exc "BadTime") rfl)).2.2.1, (He.exc_ok (d.fact 55 (f := .exc "BadTime") rfl)).2.2.2⟩,
    x_BadKey := ⟨He.glo_ok X G (d.fact 39 (f := .glo "BadKey") rfl), (He.exc_ok (d.fact 57 (f := .exc "BadKey") rfl)).1, (He.exc_ok (d.fact 57 (f := .exc "BadKey") rfl)).2.1, (He.exc_ok (d.fact 57 (f := .exc "BadKey") rfl)).2.2.1, (He.exc_ok (d.fact 57 (f := .exc "BadKey") rfl)).2.2.2⟩,
    x_BadHouse := ⟨He.glo_ok X G (d.fact 40 (f := .glo "BadHouse") rfl), (He.exc_ok (d.fact 59 (f := .exc "BadHouse") rfl)).1, (He.exc_ok (d.fact 59 (f := .exc "BadHouse") rfl)).2.1, (He.exc_ok (d.fact 59 (f := .exc "BadHouse") rfl)).2.2.1, (He.exc_ok (d.fact 59 (f := .exc "BadHouse") rfl)).2.2.2⟩,
    x_NoCopy := ⟨He.glo_ok X G (d.fact 41 (f := .glo "NoCopy") rfl), (He.exc_ok (d.fact 61 (f := .exc "NoCopy") rfl)).1, (He.exc_ok (d.fact 61 (f := .exc "NoCopy") rfl)).2.1, (He.exc_ok (d.fact 61 (f := .exc "NoCopy") rfl)).2.2.1, (He.exc_ok (d.fact 61 (f := .exc "NoCopy") rfl)).2.2.2⟩,
    c_Behind := He.glo_ok X G (d.fact 42 (f := .glo "Behind") rfl),
    x_BadBlock := ⟨He.glo_ok X G (d.fact 43 (f := .glo "BadBlock") rfl), (He.exc_ok (d.fact 63 (f := .exc "BadBlock") rfl)).1, (He.exc_ok (d.fact 63 (f := .exc "BadBlock") rfl)).2.1, (He.exc_ok (d.fact 63 (f := .exc "BadBlock") rfl)).2.2.1, (He.exc_ok (d.fact 63 (f := .exc "BadBlock") rfl)).2.2.2⟩,
    x_Stopped := ⟨He.glo_ok X G (d.fact 44 (f := .glo "Stopped") rfl), (He.exc_ok (d.fact 65 (f := .exc "Stopped") rfl)).1, (He.exc_ok (d.fact 65 (f := .exc "Stopped") rfl)).2.1, (He.exc_ok (d.fact 65 (f := .exc "Stopped") rfl)).2.2.1, (He.exc_ok (d.fact 65 (f := .exc "Stopped") rfl)).2.2.2⟩,
    c_Copy := He.glo_ok X G (d.fact 45 (f := .glo "Copy") rfl),
    cl_Copy := He.cls_ok (d.fact 67 (f := .cls "Copy") rfl),
    n_Copy_aside := He.noat_ok (d.fact 68 (f := .noat "Copy" "aside") rfl),
    n_Copy_number := He.noat_ok (d.fact 69 (f := .noat "Copy" "number") rfl),
    n_Copy_wanted := He.noat_ok (d.fact 70 (f := .noat "Copy" "wanted") rfl),
    m_Copy___init__ := ⟨fun_ofD (d.def_ 34 rfl), (mk_meth (q := "Copy.__init__") (st := s_Copy___init__) (He.mkr_ok (d.fact 71 (f := .mkr "Copy") rfl)) (fun_ofD (d.def_ 34 rfl)))⟩,
    mk_Copy := He.mkr_ok (d.fact 71 (f := .mkr "Copy") rfl),
    m_Copy_page_of := ⟨fun_ofD (d.def_ 35 rfl), (He.meth_ok (d.fact 72 (f := .meth "Copy" "page_of") rfl))⟩,
    m_Copy_follow := ⟨fun_ofD (d.def_ 36 rfl), (He.meth_ok (d.fact 73 (f := .meth "Copy" "follow") rfl))⟩,
    m_Copy_let_go := ⟨fun_ofD (d.def_ 37 rfl), (He.meth_ok (d.fact 74 (f := .meth "Copy" "let_go") rfl))⟩,
    c_Shelf := He.glo_ok X G (d.fact 46 (f := .glo "Shelf") rfl),
    cl_Shelf := He.cls_ok (d.fact 75 (f := .cls "Shelf") rfl),
    n_Shelf_begun := He.noat_ok (d.fact 76 (f := .noat "Shelf" "begun") rfl),
    n_Shelf_copies := He.noat_ok (d.fact 77 (f := .noat "Shelf" "copies") rfl),
    m_Shelf___init__ := ⟨fun_ofD (d.def_ 38 rfl), (mk_meth (q := "Shelf.__init__") (st := s_Shelf___init__) (He.mkr_ok (d.fact 78 (f := .mkr "Shelf") rfl)) (fun_ofD (d.def_ 38 rfl)))⟩,
    mk_Shelf := He.mkr_ok (d.fact 78 (f := .mkr "Shelf") rfl),
    m_Shelf_begin := ⟨fun_ofD (d.def_ 39 rfl), (He.meth_ok (d.fact 79 (f := .meth "Shelf" "begin") rfl))⟩,
    m_Shelf_find_copy := ⟨fun_ofD (d.def_ 40 rfl), (He.meth_ok (d.fact 80 (f := .meth "Shelf" "find_copy") rfl))⟩,
    m_Shelf_read_out := ⟨fun_ofD (d.def_ 41 rfl), (He.meth_ok (d.fact 81 (f := .meth "Shelf" "read_out") rfl))⟩,
    m_Shelf_give_up := ⟨fun_ofD (d.def_ 42 rfl), (He.meth_ok (d.fact 82 (f := .meth "Shelf" "give_up") rfl))⟩,
    m_Shelf_follow := ⟨fun_ofD (d.def_ 43 rfl), (He.meth_ok (d.fact 83 (f := .meth "Shelf" "follow") rfl))⟩,
    m_Shelf_listed := ⟨fun_ofD (d.def_ 44 rfl), (He.meth_ok (d.fact 84 (f := .meth "Shelf" "listed") rfl))⟩,
    m_Shelf_count_aside := ⟨fun_ofD (d.def_ 45 rfl), (He.meth_ok (d.fact 85 (f := .meth "Shelf" "count_aside") rfl))⟩,
    c_Table := He.glo_ok X G (d.fact 47 (f := .glo "Table") rfl),
    cl_Table := He.cls_ok (d.fact 86 (f := .cls "Table") rfl),
    n_Table_hands := He.noat_ok (d.fact 87 (f := .noat "Table" "hands") rfl),
    n_Table_moment := He.noat_ok (d.fact 88 (f := .noat "Table" "moment") rfl),
    n_Table_number := He.noat_ok (d.fact 89 (f := .noat "Table" "number") rfl),
    n_Table_rows := He.noat_ok (d.fact 90 (f := .noat "Table" "rows") rfl),
    m_Table___init__ := ⟨fun_ofD (d.def_ 46 rfl), (mk_meth (q := "Table.__init__") (st := s_Table___init__) (He.mkr_ok (d.fact 91 (f := .mkr "Table") rfl)) (fun_ofD (d.def_ 46 rfl)))⟩,
    mk_Table := He.mkr_ok (d.fact 91 (f := .mkr "Table") rfl),
    m_Table_twin := ⟨fun_ofD (d.def_ 47 rfl), (He.meth_ok (d.fact 92 (f := .meth "Table" "twin") rfl))⟩,
    m_Table_take := ⟨fun_ofD (d.def_ 48 rfl), (He.meth_ok (d.fact 93 (f := .meth "Table" "take") rfl))⟩,
    m_Table_take_deal := ⟨fun_ofD (d.def_ 49 rfl), (He.meth_ok (d.fact 94 (f := .meth "Table" "take_deal") rfl))⟩,
    m_Table_told_of := ⟨fun_ofD (d.def_ 50 rfl), (He.meth_ok (d.fact 95 (f := .meth "Table" "told_of") rfl))⟩,
    m_Table_told_whole := ⟨fun_ofD (d.def_ 51 rfl), (He.meth_ok (d.fact 96 (f := .meth "Table" "told_whole") rfl))⟩,
    m_Table_last_letter := ⟨fun_ofD (d.def_ 52 rfl), (He.meth_ok (d.fact 97 (f := .meth "Table" "last_letter") rfl))⟩,
    m_Table_page_rows := ⟨fun_ofD (d.def_ 53 rfl), (He.meth_ok (d.fact 98 (f := .meth "Table" "page_rows") rfl))⟩,
    C_Table_page_rows := fnC_ofD (p := ("Table", some "page_rows")) (d.def_ 53 rfl),
    m_Table_hand_rows := ⟨fun_ofD (d.def_ 54 rfl), (He.meth_ok (d.fact 99 (f := .meth "Table" "hand_rows") rfl))⟩,
    C_Table_hand_rows := fnC_ofD (p := ("Table", some "hand_rows")) (d.def_ 54 rfl),
    m_Table_kept := ⟨fun_ofD (d.def_ 55 rfl), (He.meth_ok (d.fact 100 (f := .meth "Table" "kept") rfl))⟩,
    m_Table_shown := ⟨fun_ofD (d.def_ 56 rfl), (He.meth_ok (d.fact 101 (f := .meth "Table" "shown") rfl))⟩,
    C_Table_shown := fnC_ofD (p := ("Table", some "shown")) (d.def_ 56 rfl),
    m_Table_unlike := ⟨fun_ofD (d.def_ 57 rfl), (He.meth_ok (d.fact 102 (f := .meth "Table" "unlike") rfl))⟩,
    m_Table_fill := ⟨fun_ofD (d.def_ 58 rfl), (He.meth_ok (d.fact 103 (f := .meth "Table" "fill") rfl))⟩,
    m_Table_shed := ⟨fun_ofD (d.def_ 59 rfl), (He.meth_ok (d.fact 104 (f := .meth "Table" "shed") rfl))⟩,
    c_Store := He.glo_ok X G (d.fact 48 (f := .glo "Store") rfl),
    cl_Store := He.cls_ok (d.fact 105 (f := .cls "Store") rfl),
    n_Store_disk := He.noat_ok (d.fact 106 (f := .noat "Store" "disk") rfl),
    n_Store_root := He.noat_ok (d.fact 107 (f := .noat "Store" "root") rfl),
    n_Store_stops := He.noat_ok (d.fact 108 (f := .noat "Store" "stops") rfl),
    m_Store___init__ := ⟨fun_ofD (d.def_ 60 rfl), (mk_meth (q := "Store.__init__") (st := s_Store___init__) (He.mkr_ok (d.fact 109 (f := .mkr "Store") rfl)) (fun_ofD (d.def_ 60 rfl)))⟩,
    mk_Store := He.mkr_ok (d.fact 109 (f := .mkr "Store") rfl),
    m_Store_claim := ⟨fun_ofD (d.def_ 61 rfl), (He.meth_ok (d.fact 110 (f := .meth "Store" "claim") rfl))⟩,
    m_Store_put := ⟨fun_ofD (d.def_ 62 rfl), (He.meth_ok (d.fact 111 (f := .meth "Store" "put") rfl))⟩,
    m_Store_check_held := ⟨fun_ofD (d.def_ 63 rfl), (He.meth_ok (d.fact 112 (f := .meth "Store" "check_held") rfl))⟩,
    m_Store_write_root := ⟨fun_ofD (d.def_ 64 rfl), (He.meth_ok (d.fact 113 (f := .meth "Store" "write_root") rfl))⟩,
    m_Store_stored_table := ⟨fun_ofD (d.def_ 65 rfl), (He.meth_ok (d.fact 114 (f := .meth "Store" "stored_table") rfl))⟩,
    m_Store_last_entries := ⟨fun_ofD (d.def_ 66 rfl), (He.meth_ok (d.fact 115 (f := .meth "Store" "last_entries") rfl))⟩,
    m_Store_put_aside := ⟨fun_ofD (d.def_ 67 rfl), (He.meth_ok (d.fact 116 (f := .meth "Store" "put_aside") rfl))⟩,
    m_Store_gathered_pages := ⟨fun_ofD (d.def_ 68 rfl), (He.meth_ok (d.fact 117 (f := .meth "Store" "gathered_pages") rfl))⟩,
    c_Lead := He.glo_ok X G (d.fact 49 (f := .glo "Lead") rfl),
    cl_Lead := He.cls_ok (d.fact 118 (f := .cls "Lead") rfl),
    n_Lead_entries := He.noat_ok (d.fact 119 (f := .noat "Lead" "entries") rfl),
    n_Lead_followers := He.noat_ok (d.fact 120 (f := .noat "Lead" "followers") rfl),
    n_Lead_houses := He.noat_ok (d.fact 121 (f := .noat "Lead" "houses") rfl),
    n_Lead_shelf := He.noat_ok (d.fact 122 (f := .noat "Lead" "shelf") rfl),
    n_Lead_store := He.noat_ok (d.fact 123 (f := .noat "Lead" "store") rfl),
    n_Lead_table := He.noat_ok (d.fact 124 (f := .noat "Lead" "table") rfl),
    m_Lead___init__ := ⟨fun_ofD (d.def_ 69 rfl), (mk_meth (q := "Lead.__init__") (st := s_Lead___init__) (He.mkr_ok (d.fact 125 (f := .mkr "Lead") rfl)) (fun_ofD (d.def_ 69 rfl)))⟩,
    mk_Lead := He.mkr_ok (d.fact 125 (f := .mkr "Lead") rfl),
    m_Lead_known := ⟨fun_ofD (d.def_ 70 rfl), (He.meth_ok (d.fact 126 (f := .meth "Lead" "known") rfl))⟩,
    m_Lead_clock := ⟨fun_ofD (d.def_ 71 rfl), (He.meth_ok (d.fact 127 (f := .meth "Lead" "clock") rfl))⟩,
    m_Lead_deals := ⟨fun_ofD (d.def_ 72 rfl), (He.meth_ok (d.fact 128 (f := .meth "Lead" "deals") rfl))⟩,
    m_Lead_deal := ⟨fun_ofD (d.def_ 73 rfl), (He.meth_ok (d.fact 129 (f := .meth "Lead" "deal") rfl))⟩,
    m_Lead_tick := ⟨fun_ofD (d.def_ 74 rfl), (He.meth_ok (d.fact 130 (f := .meth "Lead" "tick") rfl))⟩,
    m_Lead_read := ⟨fun_ofD (d.def_ 75 rfl), (He.meth_ok (d.fact 131 (f := .meth "Lead" "read") rfl))⟩,
    m_Lead_whole := ⟨fun_ofD (d.def_ 76 rfl), (He.meth_ok (d.fact 132 (f := .meth "Lead" "whole") rfl))⟩,
    m_Lead_tidy := ⟨fun_ofD (d.def_ 77 rfl), (He.meth_ok (d.fact 133 (f := .meth "Lead" "tidy") rfl))⟩,
    m_Lead_kept_rows := ⟨fun_ofD (d.def_ 78 rfl), (He.meth_ok (d.fact 134 (f := .meth "Lead" "kept_rows") rfl))⟩,
    m_Lead_copy := ⟨fun_ofD (d.def_ 79 rfl), (He.meth_ok (d.fact 135 (f := .meth "Lead" "copy") rfl))⟩,
    m_Lead_read_page := ⟨fun_ofD (d.def_ 80 rfl), (He.meth_ok (d.fact 136 (f := .meth "Lead" "read_page") rfl))⟩,
    m_Lead_close := ⟨fun_ofD (d.def_ 81 rfl), (He.meth_ok (d.fact 137 (f := .meth "Lead" "close") rfl))⟩,
    m_Lead_open_copies := ⟨fun_ofD (d.def_ 82 rfl), (He.meth_ok (d.fact 138 (f := .meth "Lead" "open_copies") rfl))⟩,
    m_Lead_room := ⟨fun_ofD (d.def_ 83 rfl), (He.meth_ok (d.fact 139 (f := .meth "Lead" "room") rfl))⟩,
    m_Lead_letters := ⟨fun_ofD (d.def_ 84 rfl), (He.meth_ok (d.fact 140 (f := .meth "Lead" "letters") rfl))⟩,
    m_Lead_heard := ⟨fun_ofD (d.def_ 85 rfl), (He.meth_ok (d.fact 141 (f := .meth "Lead" "heard") rfl))⟩,
    m_Lead_check_house := ⟨fun_ofD (d.def_ 86 rfl), (He.meth_ok (d.fact 142 (f := .meth "Lead" "check_house") rfl))⟩,
    m_Lead_check_group := ⟨fun_ofD (d.def_ 87 rfl), (He.meth_ok (d.fact 143 (f := .meth "Lead" "check_group") rfl))⟩,
    m_Lead_change_over := ⟨fun_ofD (d.def_ 88 rfl), (He.meth_ok (d.fact 144 (f := .meth "Lead" "change_over") rfl))⟩,
    c_Disk := He.glo_ok X G (d.fact 50 (f := .glo "Disk") rfl),
    cl_Disk := He.cls_ok (d.fact 145 (f := .cls "Disk") rfl),
    n_Disk_armed_picks := He.noat_ok (d.fact 146 (f := .noat "Disk" "armed_picks") rfl),
    n_Disk_deeds_left := He.noat_ok (d.fact 147 (f := .noat "Disk" "deeds_left") rfl),
    n_Disk_running := He.noat_ok (d.fact 148 (f := .noat "Disk" "running") rfl),
    n_Disk_stops := He.noat_ok (d.fact 149 (f := .noat "Disk" "stops") rfl),
    n_Disk_sure := He.noat_ok (d.fact 150 (f := .noat "Disk" "sure") rfl),
    n_Disk_unsure := He.noat_ok (d.fact 151 (f := .noat "Disk" "unsure") rfl),
    m_Disk___init__ := ⟨fun_ofD (d.def_ 89 rfl), (mk_meth (q := "Disk.__init__") (st := s_Disk___init__) (He.mkr_ok (d.fact 152 (f := .mkr "Disk") rfl)) (fun_ofD (d.def_ 89 rfl)))⟩,
    mk_Disk := He.mkr_ok (d.fact 152 (f := .mkr "Disk") rfl),
    m_Disk_write := ⟨fun_ofD (d.def_ 90 rfl), (He.meth_ok (d.fact 153 (f := .meth "Disk" "write") rfl))⟩,
    m_Disk_settle := ⟨fun_ofD (d.def_ 91 rfl), (He.meth_ok (d.fact 154 (f := .meth "Disk" "settle") rfl))⟩,
    m_Disk_read := ⟨fun_ofD (d.def_ 92 rfl), (He.meth_ok (d.fact 155 (f := .meth "Disk" "read") rfl))⟩,
    m_Disk_arm := ⟨fun_ofD (d.def_ 93 rfl), (He.meth_ok (d.fact 156 (f := .meth "Disk" "arm") rfl))⟩,
    m_Disk_stop := ⟨fun_ofD (d.def_ 94 rfl), (He.meth_ok (d.fact 157 (f := .meth "Disk" "stop") rfl))⟩,
    m_Disk_again := ⟨fun_ofD (d.def_ 95 rfl), (He.meth_ok (d.fact 158 (f := .meth "Disk" "again") rfl))⟩,
    m_Disk_settled := ⟨fun_ofD (d.def_ 96 rfl), (He.meth_ok (d.fact 159 (f := .meth "Disk" "settled") rfl))⟩,
    m_Disk_check_running := ⟨fun_ofD (d.def_ 97 rfl), (He.meth_ok (d.fact 160 (f := .meth "Disk" "check_running") rfl))⟩,
    m_Disk_count_deed := ⟨fun_ofD (d.def_ 98 rfl), (He.meth_ok (d.fact 161 (f := .meth "Disk" "count_deed") rfl))⟩,
    k_LAST_KEY := He.int_ok X G (d.fact 162 (f := .int "LAST_KEY" 31) rfl),
    k_LAST_HAND := He.int_ok X G (d.fact 163 (f := .int "LAST_HAND" 3) rfl),
    k_LAST_WORTH := He.int_ok X G (d.fact 164 (f := .int "LAST_WORTH" 999) rfl),
    k_LAST_MOMENT := He.int_ok X G (d.fact 165 (f := .int "LAST_MOMENT" 1000000) rfl),
    k_PAGES := He.int_ok X G (d.fact 166 (f := .int "PAGES" 9) rfl),
    k_KEYS_OF_A_PAGE := He.int_ok X G (d.fact 167 (f := .int "KEYS_OF_A_PAGE" 4) rfl),
    k_HANDS_PAGE := He.int_ok X G (d.fact 168 (f := .int "HANDS_PAGE" 8) rfl),
    k_MOST_DEEDS := He.int_ok X G (d.fact 169 (f := .int "MOST_DEEDS" 4) rfl),
    k_MOST_DEALS := He.int_ok X G (d.fact 170 (f := .int "MOST_DEALS" 4) rfl),
    k_MOST_HOUSES := He.int_ok X G (d.fact 171 (f := .int "MOST_HOUSES" 3) rfl),
    k_MOST_ENTRIES := He.int_ok X G (d.fact 172 (f := .int "MOST_ENTRIES" 16) rfl),
    k_ROOT := He.int_ok X G (d.fact 173 (f := .int "ROOT" 0) rfl),
    k_FIRST_ENTRY := He.int_ok X G (d.fact 174 (f := .int "FIRST_ENTRY" 1) rfl),
    k_FIRST_PAGE := He.int_ok X G (d.fact 175 (f := .int "FIRST_PAGE" 17) rfl),
    k_BLOCKS := He.int_ok X G (d.fact 176 (f := .int "BLOCKS" 35) rfl),
    k_MOST_WEIGHT := He.int_ok X G (d.fact 177 (f := .int "MOST_WEIGHT" 40) rfl),
    ValueError := He.free_ok X G (d.fact 178 (f := .free "ValueError") rfl),
    all := He.free_ok X G (d.fact 179 (f := .free "all") rfl),
    bool := He.free_ok X G (d.fact 180 (f := .free "bool") rfl),
    dict := He.free_ok X G (d.fact 181 (f := .free "dict") rfl),
    enumerate := He.free_ok X G (d.fact 182 (f := .free "enumerate") rfl),
    int := He.free_ok X G (d.fact 183 (f := .free "int") rfl),
    isinstance := He.free_ok X G (d.fact 184 (f := .free "isinstance") rfl),
    len := He.free_ok X G (d.fact 185 (f := .free "len") rfl),
    list := He.free_ok X G (d.fact 186 (f := .free "list") rfl),
    max := He.free_ok X G (d.fact 187 (f := .free "max") rfl),
    min := He.free_ok X G (d.fact 188 (f := .free "min") rfl),
    range := He.free_ok X G (d.fact 189 (f := .free "range") rfl),
    sorted := He.free_ok X G (d.fact 190 (f := .free "sorted") rfl),
    tuple := He.free_ok X G (d.fact 191 (f := .free "tuple") rfl),
    zip := He.free_ok X G (d.fact 192 (f := .free "zip") rfl) }
end S02

set_option Elab.async false
set_option linter.all false
set_option maxRecDepth 100000
set_option maxHeartbeats 4000000
/-! ### the end -/
namespace S02
open PySem PySem.Spec PyProof.Rows L2 LamX K5 SupX
section
variable {P : Program} {w : World} {K : PySem.W.Frag} {h : Heap} {mg : Str → Option Value}
theorem ex_of (hf : P.main.file = ("/claim/cut.py" : Str)) (X : K.In h) (G : h.Ns mainGlobals mg) (c : SaysY fa fn ts tf exB fy w h K) : Ex P w K mg (adOf K) (gB K) (gC K) (gI K) ∧ NewRoot K mg (gN K) (pAt K) := by
  obtain ⟨m1, m⟩ := Bool.and_eq_true_iff.mp c.x.more
  obtain ⟨b1, m1⟩ := Bool.and_eq_true_iff.mp m1
  obtain ⟨b2, m1⟩ := Bool.and_eq_true_iff.mp m1
  obtain ⟨b3, b4⟩ := Bool.and_eq_true_iff.mp m1
  obtain ⟨m2, m⟩ := Bool.and_eq_true_iff.mp m
  obtain ⟨a1, m2⟩ := Bool.and_eq_true_iff.mp m2
  obtain ⟨a2, m2⟩ := Bool.and_eq_true_iff.mp m2
  obtain ⟨a3, a4⟩ := Bool.and_eq_true_iff.mp m2
  obtain ⟨i1, m⟩ := Bool.and_eq_true_iff.mp m
  obtain ⟨k1, m⟩ := Bool.and_eq_true_iff.mp m
  obtain ⟨e0, e1⟩ := Bool.and_eq_true_iff.mp m
  have d := c.x.t.d
  obtain ⟨es1, n1, D1⟩ := c.x.t.tab 0 (t := ((fun K => He.ga K "BOUNDS"), ["put", "drop", "add", "if"])) rfl
  obtain ⟨es2, n2, D2⟩ := c.x.t.tab 1 (t := ((fun K => He.ga K "ACTIONS"), ["put", "drop", "add", "if"])) rfl
  have C := clsB_ok (mg := mg) (He.free_ok X G (d.fact _ (f := .free "super") fact_super)) k1
  refine ⟨⟨He.glo_ok X G (d.fact _ (f := .glo "BOUNDS") fact_bounds), ⟨es1, n1, D1⟩, fun q => ?_, He.glo_ok X G (d.fact _ (f := .glo "ACTIONS") fact_actions), ⟨es2, n2, D2.at_, D2.lit⟩, of_decide_eq_true a1, of_decide_eq_true a2, of_decide_eq_true a3, of_decide_eq_true a4, initB_ok hf c.y i1, C⟩,
    ⟨He.glo_ok X G (d.fact _ (f := .glo "NEW_ROOT") fact_root), fun H => ?_, fun H => ?_⟩⟩
  · cases q with
    | put => exact boundsB_ok b1
    | drop => exact boundsB_ok b2
    | add => exact boundsB_ok b3
    | iff => exact boundsB_ok b4
  · exact .inr (rtB_ok e0)
  · exact .inr (plB_ok e1)
end
def tpOf (K : PySem.W.Frag) : Nat → Addr
  | 7 => (He.cT K ("Table", some "page_rows")).2
  | 8 => (He.cT K ("Table", some "hand_rows")).2
  | _ => (He.cT K ("Table", some "shown")).2
theorem law_end {w : World} {K : PySem.W.Frag} {mg : Str → Option Value} {fa' : Addr} {h : Heap} (X : K.In h) (G : h.Ns mainGlobals mg) (c : SaysY fa fn ts tf exB fy w h K) (hfa : mg "law" = some (.ref fa')) :
    LawAtS PySem.Challenge.rw_stillcopy_k09_whole_copies_of_one_moment w K CX0 14 63 "_law_script" mg fa' h := by
  have T := txt_of X G c
  obtain ⟨EX, NR⟩ := ex_of (P := PySem.Challenge.rw_stillcopy_k09_whole_copies_of_one_moment.prog) (by rfl) X G c
  have e := hfa.symm.trans T.law.at_
  cases e
  obtain ⟨fd, F⟩ := T.law.fn
  have F2 := F
  obtain ⟨oc, od, kV, doc, pm, an, cdv, ct, osl, rfl, lk, hcd⟩ := F2.ex
  have mem : ∀ {p : Addr × Addr} {Y : Addr × Addr → Prop}, (∀ q ∈ tf, Y (He.cT K q)) → p ∈ tf.map (He.cT K) → Y p := fun y hp => by
    obtain ⟨q, hq, e⟩ := List.mem_map.mp hp
    rw [← e]
    exact y q hq
  refine ⟨PySem.W.fnOf "law" "law" (defArgs s_law) (defBody s_law) (defScope s_law) .none kV doc pm an cdv ct, tf.map (He.cT K), spLaw K (tpOf K), fun p hp => mem (Y := fun p => h.get? p.2 = some { cls := .none, data := .fields #[] }) (fun q hq => c.x.empty q hq) hp,
    fun p hp => mem (Y := fun p => K.lookup p.2 = none) (fun q hq => c.x.out q hq) hp, fun p hp => mem (Y := fun p => PySem.W.CodeHd h p.1 p.2) (fun q hq => PySem.W.codeHd_of_K X (c.x.hd q hq)) hp, fun s u => .of_eq rfl, fun H a ns hl _ hT hS => ?_, fun base KX G hTB => ?_⟩
  · refine ⟨a, ns, rfl, hS, hl, fun P hP => ?_, fun _ => rfl⟩
    have : ∃ q ∈ tf, P = (He.cT K q).2 := by
      unfold tL at hP
      simp only [List.mem_cons, List.not_mem_nil, or_false] at hP
      rcases hP with z | z | z
      · exact ⟨("Table", some "page_rows"), by decide, z⟩
      · exact ⟨("Table", some "hand_rows"), by decide, z⟩
      · exact ⟨("Table", some "shown"), by decide, z⟩
    obtain ⟨q, hq, e⟩ := this
    rw [e]
    exact ⟨#[], hT _ (List.mem_map.mpr ⟨q, hq, rfl⟩), by simp only [PySem.TriplesOk]⟩
  · have tb : ∀ q ∈ tf, GxR.TabB base mg (He.cT K q).1 (He.cT K q).2 := fun q hq => by
      have x := hTB _ (List.mem_map.mpr ⟨q, hq, rfl⟩)
      exact ⟨x.code, x.bm, x.gP⟩
    exact ok_law (P := PySem.Challenge.rw_stillcopy_k09_whole_copies_of_one_moment.prog) (w := w) (base := base) (tp := tpOf K) T ⟨tb ("Table", some "page_rows") (by decide), tb ("Table", some "hand_rows") (by decide), tb ("Table", some "shown") (by decide)⟩ EX NR (by decide +kernel) F
end S02

set_option Elab.async false
set_option maxRecDepth 100000
open PySem PySem.W PySem.Calls PyProof.Rows
set_option maxHeartbeats 0 in
theorem PySem.Challenge.cw_stillcopy_k09_whole_copies_of_one_moment_holds : PySem.Challenge.rw_stillcopy_k09_whole_copies_of_one_moment.Holds := by
  w_on; o_law
  refine HandSHeadRun.head_any (r := (PySem.W.OpenLaw.row PySem.Challenge.rw_stillcopy_k09_whole_copies_of_one_moment)) (q := PySem.W.view (PySem.W.OpenLaw.row PySem.Challenge.rw_stillcopy_k09_whole_copies_of_one_moment).prog [79]) (H := S02.hk) (ob := S02.ob) (M := 12000) (loose := S02.loose) (d := HandSHeadRun.topDef (PySem.W.OpenLaw.row PySem.Challenge.rw_stillcopy_k09_whole_copies_of_one_moment).prog 79) (kwd := []) S02.ob_eq
    (by kernel_rfl) (fun s => by kernel_rfl) S02.run (by kernel_rfl) (by kernel_rfl) (by kernel_rfl) (by rfl) (by first | assumption | decide +kernel) (by decide +kernel) ⟨rfl, rfl, rfl, rfl, rfl, by decide +kernel⟩ ?hw ?hc
  case hw => w_witness2
  case hc =>
    refine LamX.walk_ofTsE (l := PySem.Challenge.rw_stillcopy_k09_whole_copies_of_one_moment) (n := 63) (k := 14) (x := "_law_script") (CX := fun _ => L2.CX0) rfl (by decide) (by kernel_rfl) ⟨rfl, by decide, by decide⟩ ?F (fun _ _ _ _ _ z => z)
    intro w mg fa h Y G hmg0
    obtain ⟨K, KX, c⟩ := Y
    have hmg : mg ("law" : PySem.Str) = some (.ref fa) := by
      have e : (HandSHeadRun.topDef (PySem.W.OpenLaw.row PySem.Challenge.rw_stillcopy_k09_whole_copies_of_one_moment).prog 79).name = ("law" : PySem.Str) := by kernel_rfl
      rw [← e]
      exact hmg0
    exact ⟨K, KX, S02.law_end KX G c hmg⟩
