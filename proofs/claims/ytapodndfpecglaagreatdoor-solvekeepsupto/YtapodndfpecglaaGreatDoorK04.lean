import Derived.Shelf.Strconv.Clone
import Derived.Test.YtapodndfpecglaaGreatDoorProg
set_option linter.all false
set_option maxRecDepth 100000
set_option maxHeartbeats 0
open Go.Proofs.Tryz
namespace Go.Proofs
open Go.Shelf
def Tryz.lays316_ren:Go.Shelf.Ren:=⟨fun|316=>181|n=>n,fun|22=>64|23=>250|27=>93|28=>25|30=>116|31=>49|37=>245|40=>297|41=>95|42=>165|43=>94|46=>164|47=>163|51=>192|52=>191|53=>69|54=>193|55=>277|59=>211|60=>212|63=>281|64=>290|68=>166|69=>194|80=>299|81=>127|104=>63|105=>279|106=>280|111=>87|112=>198|114=>278|115=>264|116=>265|117=>266|118=>267|119=>293|122=>263|123=>268|124=>269|127=>276|131=>189|137=>294|138=>295|139=>296|146=>288|151=>289|164=>319|182=>184|183=>185|218=>217|219=>218|220=>219|222=>199|228=>252|229=>39|238=>300|239=>301|240=>302|241=>303|242=>304|243=>305|244=>306|245=>307|246=>308|247=>309|248=>310|249=>311|n=>n,fun|1=>0|3=>1|4=>2|n=>n⟩
theorem Tryz.lays316:Go.Proofs.LaysM.n316 prog Tryz.lays316_ren:={
 mixed:=by kernel_rfl
 f316:=func181.trans (congrArg some (by kernel_rfl))
 t0:=underlying0
 a0:=isAgg0
 z0:=sizeOf0
 v0:=zeroValue0
 t3:=underlying3
 a3:=isAgg3
 z3:=sizeOf3
 v3:=zeroValue3
 t4:=underlying4
 a4:=isAgg4
 z4:=sizeOf4
 v4:=zeroValue4
 t9:=underlying9
 a9:=isAgg9
 z9:=sizeOf9
 v9:=zeroValue9
 t37:=underlying245
 a37:=isAgg245
 z37:=sizeOf245
 v37:=zeroValue245
 t127:=underlying276
 a127:=isAgg276
 z127:=sizeOf276
 v127:=zeroValue276
 t5:=underlying5
 a5:=isAgg5
 z5:=sizeOf5
 v5:=zeroValue5
 i0:=by kernel_rfl
 i3:=by kernel_rfl
 i4:=by kernel_rfl
 i5:=by kernel_rfl
 i9:=by kernel_rfl
 i37:=by kernel_rfl
 i127:=by kernel_rfl }
end Go.Proofs
