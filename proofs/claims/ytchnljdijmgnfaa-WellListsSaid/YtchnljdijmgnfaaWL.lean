/- Layer 6 lives: what its constants say. -/
import Derived.Test.YtchnljdijmgnfaaWH
import Derived.Test.YtchnljdijmgnfaaWI
namespace Go.Proofs.Ytchnljdijmgnfaa
theorem live1 : listV [65, 49, 58, 66, 50, 44, 65, 65, 49, 48] = ([(0, 0), (0, 1), (1, 0), (1, 1), (26, 9)], 0, 0) := by kernel_rfl
theorem live2 : listV [65, 49, 44, 66, 48] = ([], 60, 1) := by kernel_rfl
theorem live3 : parseV [65, 70, 52, 56] = (31, 47) := by kernel_rfl
theorem live4 : parseE [65, 70, 52, 56] = 0 := by kernel_rfl
theorem live5 : nameL (26, 9) = [65, 65, 49, 48] := by kernel_rfl
theorem live6 : textL [(0, 0), (0, 1)] = [65, 49, 44, 65, 50] := by kernel_rfl
end Go.Proofs.Ytchnljdijmgnfaa
