/-
  The library's sort of rows lies at this program: its closure's bodies and types. Closed facts of the program alone.
-/
import Derived.Shelf.SlLaysF
import Derived.Shelf.SlGeneric
import Derived.KernelRfl
import Derived.Test.YtedmegmhjmabcaaKSDca
import Derived.Test.YtedmegmhjmabcaaJSVLib
namespace Go.Proofs.Ytedmegmhjmabcaa
open Go.Shelf
def rowsSort_ren : Go.Shelf.Ren:=⟨fun | 6=>128 | 15=>139 | 14=>145 | 28=>158 | 29=>159 | 20=>147 | 21=>161 | 22=>162 | 23=>163 | 24=>164 | 25=>165 | 26=>166 | 27=>167 | 46=>175 | 47=>171 | 48=>172 | 49=>176 | 50=>177 | 57=>180 | n=>n,fun | 22=>28 | 24=>70 | 25=>95 | 3=>3 | 39=>154 | 0=>0 | 53=>169 | 55=>171 | 4=>4 | 46=>162 | 45=>161 | 50=>166 | 5=>5 | 9=>9 | 66=>177 | 70=>181 | 76=>185 | 77=>186 | n=>n,fun | n=>n⟩
theorem rowsSort : Go.Proofs.SlLaysF.n6 Try.prog rowsSort_ren:={
 mixed:=by kernel_rfl
 f6:=⟨Try.f128.name,by decide,Try.func128.trans (congrArg some (by kernel_rfl))⟩
 f14:=⟨Try.f145.name,by decide,Try.func145.trans (congrArg some (by kernel_rfl))⟩
 f15:=Try.func139.trans (congrArg some (by kernel_rfl))
 f20:=⟨Try.f147.name,by decide,Try.func147.trans (congrArg some (by kernel_rfl))⟩
 f21:=⟨Try.f161.name,by decide,Try.func161.trans (congrArg some (by kernel_rfl))⟩
 f22:=⟨Try.f162.name,by decide,Try.func162.trans (congrArg some (by kernel_rfl))⟩
 f23:=⟨Try.f163.name,by decide,Try.func163.trans (congrArg some (by kernel_rfl))⟩
 f24:=⟨Try.f164.name,by decide,Try.func164.trans (congrArg some (by kernel_rfl))⟩
 f25:=⟨Try.f165.name,by decide,Try.func165.trans (congrArg some (by kernel_rfl))⟩
 f26:=⟨Try.f166.name,by decide,Try.func166.trans (congrArg some (by kernel_rfl))⟩
 f27:=⟨Try.f167.name,by decide,Try.func167.trans (congrArg some (by kernel_rfl))⟩
 f28:=Try.func158.trans (congrArg some (by kernel_rfl))
 f29:=Try.func159.trans (congrArg some (by kernel_rfl))
 f46:=⟨Try.f175.name,by decide,Try.func175.trans (congrArg some (by kernel_rfl))⟩
 f47:=Try.func171.trans (congrArg some (by kernel_rfl))
 f48:=Try.func172.trans (congrArg some (by kernel_rfl))
 f49:=⟨Try.f176.name,by decide,Try.func176.trans (congrArg some (by kernel_rfl))⟩
 f50:=⟨Try.f177.name,by decide,Try.func177.trans (congrArg some (by kernel_rfl))⟩
 f57:=⟨Try.f180.name,by decide,Try.func180.trans (congrArg some (by kernel_rfl))⟩
 t0:=Try.underlying0
 a0:=Try.isAgg0
 z0:=Try.sizeOf0
 v0:=Try.zeroValue0
 t3:=Try.underlying3
 a3:=Try.isAgg3
 z3:=Try.sizeOf3
 v3:=Try.zeroValue3
 t4:=Try.underlying4
 a4:=Try.isAgg4
 z4:=Try.sizeOf4
 v4:=Try.zeroValue4
 t5:=Try.underlying5
 a5:=Try.isAgg5
 z5:=Try.sizeOf5
 v5:=Try.zeroValue5
 t9:=Try.underlying9
 a9:=Try.isAgg9
 z9:=Try.sizeOf9
 v9:=Try.zeroValue9
 t22:=Try.underlying28
 a22:=Try.isAgg28
 z22:=Try.sizeOf28
 v22:=Try.zeroValue28
 a24:=Try.isAgg70
 z24:=Try.sizeOf70
 t25:=Try.underlying95
 a25:=Try.isAgg95
 z25:=Try.sizeOf95
 v25:=Try.zeroValue95
 t39:=Try.underlying154
 a39:=Try.isAgg154
 z39:=Try.sizeOf154
 v39:=Try.zeroValue154
 t45:=Try.underlying161
 a45:=Try.isAgg161
 z45:=Try.sizeOf161
 v45:=Try.zeroValue161
 t46:=Try.underlying162
 a46:=Try.isAgg162
 z46:=Try.sizeOf162
 v46:=Try.zeroValue162
 t50:=Try.underlying166
 a50:=Try.isAgg166
 z50:=Try.sizeOf166
 v50:=Try.zeroValue166
 t53:=Try.underlying169
 a53:=Try.isAgg169
 z53:=Try.sizeOf169
 v53:=Try.zeroValue169
 t55:=Try.underlying171
 a55:=Try.isAgg171
 z55:=Try.sizeOf171
 v55:=Try.zeroValue171
 t66:=Try.underlying177
 a66:=Try.isAgg177
 z66:=Try.sizeOf177
 v66:=Try.zeroValue177
 t70:=Try.underlying181
 a70:=Try.isAgg181
 z70:=Try.sizeOf181
 v70:=Try.zeroValue181
 t76:=Try.underlying185
 a76:=Try.isAgg185
 z76:=Try.sizeOf185
 v76:=Try.zeroValue185
 t77:=Try.underlying186
 a77:=Try.isAgg186
 z77:=Try.sizeOf186
 v77:=Try.zeroValue186 }
end Go.Proofs.Ytedmegmhjmabcaa
