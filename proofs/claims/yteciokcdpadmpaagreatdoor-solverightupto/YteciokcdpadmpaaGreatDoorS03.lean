import Derived.Shelf.Strings.Prefix
import Derived.Test.YteciokcdpadmpaaGreatDoorProg
import Derived.Shelf.SlSortCmp.NoneTotal
set_option linter.all false
set_option maxRecDepth 100000
set_option maxHeartbeats 0
open Go.Proofs.Tryz
namespace Go.Proofs
open Go.Shelf
def Tryz.lays99_ren:Go.Shelf.Ren:=⟨fun|99=>174|206=>190|n=>n,fun|22=>59|23=>252|27=>94|28=>25|30=>117|31=>53|37=>225|40=>299|41=>96|42=>157|43=>95|46=>156|47=>155|51=>190|52=>189|53=>63|54=>191|55=>279|59=>212|60=>213|63=>283|64=>292|68=>163|69=>193|80=>301|81=>125|104=>57|105=>281|106=>282|111=>88|112=>206|114=>280|115=>266|116=>267|117=>268|118=>269|119=>295|122=>265|123=>270|124=>271|127=>272|131=>187|137=>296|138=>297|139=>298|146=>290|151=>291|164=>320|222=>197|228=>254|229=>35|238=>302|239=>303|240=>304|241=>305|242=>306|243=>307|244=>308|245=>309|246=>310|247=>311|248=>312|249=>313|n=>n,fun|1=>0|3=>1|4=>2|n=>n⟩
theorem Tryz.lays99:Go.Proofs.Lays.n99 prog Tryz.lays99_ren:={
 mixed:=by kernel_rfl
 f99:=func174.trans (congrArg some (by kernel_rfl))
 f206:=func190.trans (congrArg some (by kernel_rfl))
 t3:=underlying3
 a3:=isAgg3
 z3:=sizeOf3
 v3:=zeroValue3
 t4:=underlying4
 a4:=isAgg4
 z4:=sizeOf4
 v4:=zeroValue4
 t9:=underlying9
 a9:=isAgg9
 z9:=sizeOf9
 v9:=zeroValue9 }
end Go.Proofs
namespace Go.Proofs
open Go.Shelf
def Tryz.laysSort_ren:Go.Shelf.Ren:=⟨fun|6=>182|14=>203|15=>91|20=>213|21=>214|22=>215|23=>216|24=>217|25=>218|26=>219|27=>220|28=>115|29=>116|46=>225|47=>146|48=>147|49=>226|50=>227|57=>230|n=>n,fun|22=>242|23=>262|24=>245|25=>263|27=>25|28=>121|29=>95|37=>278|38=>155|39=>156|41=>154|42=>88|44=>285|45=>182|46=>183|47=>286|48=>287|49=>288|50=>187|51=>289|52=>189|53=>190|54=>191|55=>63|56=>181|57=>184|58=>185|59=>186|60=>188|66=>218|67=>219|68=>220|69=>293|70=>197|71=>294|72=>221|73=>222|76=>254|77=>35|78=>300|79=>255|81=>301|82=>302|83=>303|84=>304|85=>305|86=>306|87=>125|88=>307|89=>308|90=>309|91=>272|92=>310|93=>311|94=>312|95=>313|96=>320|n=>n,fun n=>n⟩
theorem Tryz.laysSort:Go.Proofs.SlLaysF0.n6 prog Tryz.laysSort_ren:={
 mixed:=by kernel_rfl
 f6:=⟨ "slices.SortFunc[[]pantry/span.edge,pantry/span.edge]",by decide,func182.trans (congrArg some (by kernel_rfl))⟩
 f14:=⟨ "slices.pdqsortCmpFunc[pantry/span.edge]",by decide,func203.trans (congrArg some (by kernel_rfl))⟩
 f15:=func91.trans (congrArg some (by kernel_rfl))
 f20:=⟨ "slices.insertionSortCmpFunc[pantry/span.edge]",by decide,func213.trans (congrArg some (by kernel_rfl))⟩
 f21:=⟨ "slices.heapSortCmpFunc[pantry/span.edge]",by decide,func214.trans (congrArg some (by kernel_rfl))⟩
 f22:=⟨ "slices.breakPatternsCmpFunc[pantry/span.edge]",by decide,func215.trans (congrArg some (by kernel_rfl))⟩
 f23:=⟨ "slices.choosePivotCmpFunc[pantry/span.edge]",by decide,func216.trans (congrArg some (by kernel_rfl))⟩
 f24:=⟨ "slices.reverseRangeCmpFunc[pantry/span.edge]",by decide,func217.trans (congrArg some (by kernel_rfl))⟩
 f25:=⟨ "slices.partialInsertionSortCmpFunc[pantry/span.edge]",by decide,func218.trans (congrArg some (by kernel_rfl))⟩
 f26:=⟨ "slices.partitionEqualCmpFunc[pantry/span.edge]",by decide,func219.trans (congrArg some (by kernel_rfl))⟩
 f27:=⟨ "slices.partitionCmpFunc[pantry/span.edge]",by decide,func220.trans (congrArg some (by kernel_rfl))⟩
 f28:=func115.trans (congrArg some (by kernel_rfl))
 f29:=func116.trans (congrArg some (by kernel_rfl))
 f46:=⟨ "slices.siftDownCmpFunc[pantry/span.edge]",by decide,func225.trans (congrArg some (by kernel_rfl))⟩
 f47:=func146.trans (congrArg some (by kernel_rfl))
 f48:=func147.trans (congrArg some (by kernel_rfl))
 f49:=⟨ "slices.medianAdjacentCmpFunc[pantry/span.edge]",by decide,func226.trans (congrArg some (by kernel_rfl))⟩
 f50:=⟨ "slices.medianCmpFunc[pantry/span.edge]",by decide,func227.trans (congrArg some (by kernel_rfl))⟩
 f57:=⟨ "slices.order2CmpFunc[pantry/span.edge]",by decide,func230.trans (congrArg some (by kernel_rfl))⟩
 t0:=underlying0
 a0:=isAgg0
 z0:=sizeOf0
 v0:=zeroValue0
 t3:=underlying3
 a3:=isAgg3
 z3:=sizeOf3
 v3:=zeroValue3
 t4:=underlying4
 a4:=isAgg4
 z4:=sizeOf4
 v4:=zeroValue4
 t5:=underlying5
 a5:=isAgg5
 z5:=sizeOf5
 v5:=zeroValue5
 t9:=underlying9
 a9:=isAgg9
 z9:=sizeOf9
 v9:=zeroValue9
 t22:=underlying242
 a22:=isAgg242
 z22:=sizeOf242
 v22:=zeroValue242
 t25:=underlying263
 a25:=isAgg263
 z25:=sizeOf263
 v25:=zeroValue263
 t39:=underlying156
 a39:=isAgg156
 z39:=sizeOf156
 v39:=zeroValue156
 t45:=underlying182
 a45:=isAgg182
 z45:=sizeOf182
 v45:=zeroValue182
 t46:=underlying183
 a46:=isAgg183
 z46:=sizeOf183
 v46:=zeroValue183
 t50:=underlying187
 a50:=isAgg187
 z50:=sizeOf187
 v50:=zeroValue187
 t53:=underlying190
 a53:=isAgg190
 z53:=sizeOf190
 v53:=zeroValue190
 t55:=underlying63
 a55:=isAgg63
 z55:=sizeOf63
 v55:=zeroValue63
 t66:=underlying218
 a66:=isAgg218
 z66:=sizeOf218
 v66:=zeroValue218
 t70:=underlying197
 a70:=isAgg197
 z70:=sizeOf197
 v70:=zeroValue197
 t76:=underlying254
 a76:=isAgg254
 z76:=sizeOf254
 v76:=zeroValue254
 t77:=underlying35
 a77:=isAgg35
 z77:=sizeOf35
 v77:=zeroValue35 }
end Go.Proofs
