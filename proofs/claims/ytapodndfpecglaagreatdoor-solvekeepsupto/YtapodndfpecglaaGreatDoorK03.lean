import Derived.Shelf.Strings.Prefix
import Derived.Test.YtapodndfpecglaaGreatDoorProg
set_option linter.all false
set_option maxRecDepth 100000
set_option maxHeartbeats 0
open Go.Proofs.Tryz
namespace Go.Proofs
open Go.Shelf
def Tryz.lays99_ren:Go.Shelf.Ren:=⟨fun|99=>172|206=>188|n=>n,fun|22=>64|23=>250|27=>93|28=>25|30=>116|31=>49|37=>245|40=>297|41=>95|42=>165|43=>94|46=>164|47=>163|51=>192|52=>191|53=>69|54=>193|55=>277|59=>211|60=>212|63=>281|64=>290|68=>166|69=>194|80=>299|81=>127|104=>63|105=>279|106=>280|111=>87|112=>198|114=>278|115=>264|116=>265|117=>266|118=>267|119=>293|122=>263|123=>268|124=>269|127=>276|131=>189|137=>294|138=>295|139=>296|146=>288|151=>289|164=>319|182=>184|183=>185|218=>217|219=>218|220=>219|222=>199|228=>252|229=>39|238=>300|239=>301|240=>302|241=>303|242=>304|243=>305|244=>306|245=>307|246=>308|247=>309|248=>310|249=>311|n=>n,fun|1=>0|3=>1|4=>2|n=>n⟩
theorem Tryz.lays99:Go.Proofs.Lays.n99 prog Tryz.lays99_ren:={
 mixed:=by kernel_rfl
 f99:=func172.trans (congrArg some (by kernel_rfl))
 f206:=func188.trans (congrArg some (by kernel_rfl))
 t3:=underlying3
 a3:=isAgg3
 z3:=sizeOf3
 v3:=zeroValue3
 t4:=underlying4
 a4:=isAgg4
 z4:=sizeOf4
 v4:=zeroValue4
 t9:=underlying9
 a9:=isAgg9
 z9:=sizeOf9
 v9:=zeroValue9 }
end Go.Proofs
