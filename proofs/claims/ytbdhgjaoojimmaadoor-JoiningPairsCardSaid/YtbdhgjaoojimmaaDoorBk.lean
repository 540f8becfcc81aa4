/-
  The joining types, as the document tells them, as a contract.
-/
import Derived.Test.YtbdhgjaoojimmaaDoorGv
import Derived.Test.YtbdhgjaoojimmaaDoorTabF
namespace Go.Proofs.YtbdhgjaoojimmaaDoor
open Go Go.RowKit
set_option linter.unusedVariables false
def jnT : List (Int × Int × Int) := (1570, 1573, 1) :: (1575, 1575, 1) :: (1577, 1577, 1) :: (1583, 1586, 1) :: (1608, 1608, 1) :: (1649, 1651, 1) :: (1653, 1655, 1) :: (1672, 1689, 1) :: (1728, 1728, 1) :: (1731, 1739, 1) :: (1741, 1741, 1) :: (1743, 1743, 1) :: (1746, 1747, 1) :: (1749, 1749, 1) :: (1774, 1775, 1) :: (1568, 1568, 2) :: (1574, 1574, 2) :: (1576, 1576, 2) :: (1578, 1582, 2) :: (1587, 1599, 2) :: (1601, 1607, 2) :: (1609, 1610, 2) :: (1646, 1647, 2) :: (1656, 1671, 2) :: (1690, 1727, 2) :: (1729, 1730, 2) :: (1740, 1740, 2) :: (1742, 1742, 2) :: (1744, 1745, 2) :: (1786, 1788, 2) :: (1791, 1791, 2) :: (1600, 1600, 3) :: (8205, 8205, 3) :: (768, 879, 4) :: (1155, 1161, 4) :: (1425, 1469, 4) :: (1471, 1471, 4) :: (1473, 1474, 4) :: (1476, 1477, 4) :: (1479, 1479, 4) :: (1552, 1562, 4) :: (1611, 1631, 4) :: (1648, 1648, 4) :: (1750, 1756, 4) :: (1759, 1764, 4) :: (1767, 1768, 4) :: (1770, 1773, 4) :: (1809, 1809, 4) :: (1840, 1866, 4) :: (1958, 1968, 4) :: (8400, 8432, 4) :: (64286, 64286, 4) :: (65024, 65039, 4) :: (65056, 65071, 4) :: (125252, 125258, 4) :: (917760, 917999, 4) :: (173, 173, 4) :: (8203, 8203, 4) :: (8206, 8207, 4) :: (8234, 8238, 4) :: (8288, 8292, 4) :: (65279, 65279, 4) :: []
theorem jnT_eq : tableOf Tryd.f24 = jnT := by kernel_rfl
def jnC (r : Int) : Int := joiningS jnT r
def rfJn (_N : Nat) (r : Int) : Option Int := some (jnC r)
def rfJn_R (r : Int) (w0 : World) (v : Value) (w : World) : Prop := v = .int .u8 r ∧ St [] w0 w []
theorem rfJn_ok (N : Nat) (p0 : Int) (r : Int) (hF : rfJn N p0 = some r) (w0 : World) :
    Calls Tryd.prog 14 #[.int .i32 p0] w0 fun e w => ∃ v, e = .returned v ∧ rfJn_R r w0 v w := by
  refine (refJoining_is _ tabJoinings p0 w0).mono ?_
  rintro e w ⟨rfl, hb⟩
  obtain rfl := Option.some.inj hF
  exact ⟨_, rfl, by rw [jnT_eq]; rfl, (St.start _).stay hb⟩
end Go.Proofs.YtbdhgjaoojimmaaDoor
