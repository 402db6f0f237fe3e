import Derived.BigQuiet
import Derived.Deep.QuietTactic
import Derived.Handy
import Derived.Laws.BitsLemmas
import Derived.Lib.Hide
import Derived.Lib.MinMax
import Derived.LoopTactic
import Derived.Outline
import Derived.Test.YtpodmgihlomglaaGreatDoorChecked
import Derived.WalkKit
import Derived.WalkLawsBesides
import Derived.WalkSpells
namespace Go.Proofs.YtpodmgihlomglaaGreatDoor
open Go.RowKit
def wS : List UInt8 → Int
 | [] => 0
 | c :: r => (c.toNat : Int) * 256 ^ r.length + wS r
end Go.Proofs.YtpodmgihlomglaaGreatDoor
