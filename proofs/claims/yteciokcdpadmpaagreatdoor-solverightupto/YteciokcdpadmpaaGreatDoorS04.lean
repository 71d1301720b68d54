import Derived.Shelf.Strconv.Clone
import Derived.Test.YteciokcdpadmpaaGreatDoorProg
set_option linter.all false
set_option maxRecDepth 100000
set_option maxHeartbeats 0
open Go.Proofs.Tryz
namespace Go.Proofs
open Go.Shelf
def Tryz.lays316_ren:Go.Shelf.Ren:=⟨fun|316=>176|n=>n,fun|22=>59|23=>252|27=>94|28=>25|30=>117|31=>53|37=>225|40=>299|41=>96|42=>157|43=>95|46=>156|47=>155|51=>190|52=>189|53=>63|54=>191|55=>279|59=>212|60=>213|63=>283|64=>292|68=>163|69=>193|80=>301|81=>125|104=>57|105=>281|106=>282|111=>88|112=>206|114=>280|115=>266|116=>267|117=>268|118=>269|119=>295|122=>265|123=>270|124=>271|127=>272|131=>187|137=>296|138=>297|139=>298|146=>290|151=>291|164=>320|222=>197|228=>254|229=>35|238=>302|239=>303|240=>304|241=>305|242=>306|243=>307|244=>308|245=>309|246=>310|247=>311|248=>312|249=>313|n=>n,fun|1=>0|3=>1|4=>2|n=>n⟩
theorem Tryz.lays316:Go.Proofs.LaysM.n316 prog Tryz.lays316_ren:={
 mixed:=by kernel_rfl
 f316:=func176.trans (congrArg some (by kernel_rfl))
 t0:=underlying0
 a0:=isAgg0
 z0:=sizeOf0
 v0:=zeroValue0
 t3:=underlying3
 a3:=isAgg3
 z3:=sizeOf3
 v3:=zeroValue3
 t4:=underlying4
 a4:=isAgg4
 z4:=sizeOf4
 v4:=zeroValue4
 t9:=underlying9
 a9:=isAgg9
 z9:=sizeOf9
 v9:=zeroValue9
 t37:=underlying225
 a37:=isAgg225
 z37:=sizeOf225
 v37:=zeroValue225
 t127:=underlying272
 a127:=isAgg272
 z127:=sizeOf272
 v127:=zeroValue272
 t5:=underlying5
 a5:=isAgg5
 z5:=sizeOf5
 v5:=zeroValue5
 i0:=by kernel_rfl
 i3:=by kernel_rfl
 i4:=by kernel_rfl
 i5:=by kernel_rfl
 i9:=by kernel_rfl
 i37:=by kernel_rfl
 i127:=by kernel_rfl }
end Go.Proofs
