import Derived.Shelf.Small.Wraps
import Derived.Shelf.Strings.Trim
import Derived.Shelf.Strings.Search2
import Derived.Test.YtapodndfpecglaaGreatDoorProg
set_option linter.all false
set_option maxRecDepth 100000
set_option maxHeartbeats 0
open Go.Proofs.Tryz
namespace Go.Proofs
open Go.Shelf
def Tryz.lays122_ren:Go.Shelf.Ren:=⟨fun|122=>89|215=>111|n=>n,fun|22=>64|23=>250|27=>93|28=>25|30=>116|31=>49|37=>245|40=>297|41=>95|42=>165|43=>94|46=>164|47=>163|51=>192|52=>191|53=>69|54=>193|55=>277|59=>211|60=>212|63=>281|64=>290|68=>166|69=>194|80=>299|81=>127|104=>63|105=>279|106=>280|111=>87|112=>198|114=>278|115=>264|116=>265|117=>266|118=>267|119=>293|122=>263|123=>268|124=>269|127=>276|131=>189|137=>294|138=>295|139=>296|146=>288|151=>289|164=>319|182=>184|183=>185|218=>217|219=>218|220=>219|222=>199|228=>252|229=>39|238=>300|239=>301|240=>302|241=>303|242=>304|243=>305|244=>306|245=>307|246=>308|247=>309|248=>310|249=>311|n=>n,fun|1=>0|3=>1|4=>2|n=>n⟩
theorem Tryz.lays122:Go.Proofs.Lays.n122 prog Tryz.lays122_ren:={
 mixed:=by kernel_rfl
 f122:=func89.trans (congrArg some (by kernel_rfl))
 f215:=func111.trans (congrArg some (by kernel_rfl))
 t3:=underlying3
 a3:=isAgg3
 z3:=sizeOf3
 v3:=zeroValue3
 t4:=underlying4
 a4:=isAgg4
 z4:=sizeOf4
 v4:=zeroValue4 }
def Tryz.lays161_ren:Go.Shelf.Ren:=⟨fun|119=>227|137=>226|151=>208|152=>222|161=>170|197=>207|217=>202|224=>204|225=>203|227=>185|228=>206|231=>184|233=>186|235=>187|260=>221|266=>219|n=>n,fun|22=>64|23=>250|27=>93|28=>25|30=>116|31=>49|37=>245|40=>297|41=>95|42=>165|43=>94|46=>164|47=>163|51=>192|52=>191|53=>69|54=>193|55=>277|59=>211|60=>212|63=>281|64=>290|68=>166|69=>194|80=>299|81=>127|104=>63|105=>279|106=>280|111=>87|112=>198|114=>278|115=>264|116=>265|117=>266|118=>267|119=>293|122=>263|123=>268|124=>269|127=>276|131=>189|137=>294|138=>295|139=>296|146=>288|151=>289|164=>319|182=>184|183=>185|218=>217|219=>218|220=>219|222=>199|228=>252|229=>39|238=>300|239=>301|240=>302|241=>303|242=>304|243=>305|244=>306|245=>307|246=>308|247=>309|248=>310|249=>311|n=>n,fun|1=>0|3=>1|4=>2|n=>n⟩
theorem Tryz.lays161:Go.Proofs.Lays.n161 prog Tryz.lays161_ren:={
 mixed:=by kernel_rfl
 f119:=func227.trans (congrArg some (by kernel_rfl))
 f137:=func226.trans (congrArg some (by kernel_rfl))
 f151:=func208.trans (congrArg some (by kernel_rfl))
 f152:=func222.trans (congrArg some (by kernel_rfl))
 f161:=func170.trans (congrArg some (by kernel_rfl))
 f197:=func207.trans (congrArg some (by kernel_rfl))
 f217:=func202.trans (congrArg some (by kernel_rfl))
 f224:=func204.trans (congrArg some (by kernel_rfl))
 f225:=func203.trans (congrArg some (by kernel_rfl))
 f227:=func185.trans (congrArg some (by kernel_rfl))
 f228:=func206.trans (congrArg some (by kernel_rfl))
 f231:=func184.trans (congrArg some (by kernel_rfl))
 f233:=func186.trans (congrArg some (by kernel_rfl))
 f235:=func187.trans (congrArg some (by kernel_rfl))
 f260:=func221.trans (congrArg some (by kernel_rfl))
 f266:=func219.trans (congrArg some (by kernel_rfl))
 t0:=underlying0
 a0:=isAgg0
 z0:=sizeOf0
 v0:=zeroValue0
 t3:=underlying3
 a3:=isAgg3
 z3:=sizeOf3
 v3:=zeroValue3
 t4:=underlying4
 a4:=isAgg4
 z4:=sizeOf4
 v4:=zeroValue4
 t5:=underlying5
 a5:=isAgg5
 z5:=sizeOf5
 v5:=zeroValue5
 t9:=underlying9
 a9:=isAgg9
 z9:=sizeOf9
 v9:=zeroValue9
 t21:=underlying21
 a21:=isAgg21
 z21:=sizeOf21
 v21:=zeroValue21
 t46:=underlying164
 a46:=isAgg164
 z46:=sizeOf164
 v46:=zeroValue164
 t105:=underlying279
 a105:=isAgg279
 z105:=sizeOf279
 v105:=zeroValue279
 t116:=underlying265
 a116:=isAgg265
 z116:=sizeOf265
 t117:=underlying266
 a117:=isAgg266
 z117:=sizeOf266
 v117:=zeroValue266
 t119:=underlying293
 a119:=isAgg293
 z119:=sizeOf293
 t124:=underlying269
 a124:=isAgg269
 z124:=sizeOf269
 v124:=zeroValue269
 t138:=underlying295
 a138:=isAgg295
 z138:=sizeOf295
 v138:=zeroValue295
 t139:=underlying296
 a139:=isAgg296
 z139:=sizeOf296
 v139:=zeroValue296
 g3:=by kernel_rfl
 g4:=by kernel_rfl }
def Tryz.lays219_ren:Go.Shelf.Ren:=⟨fun|217=>202|219=>183|224=>204|225=>203|266=>219|267=>205|314=>220|n=>n,fun|22=>64|23=>250|27=>93|28=>25|30=>116|31=>49|37=>245|40=>297|41=>95|42=>165|43=>94|46=>164|47=>163|51=>192|52=>191|53=>69|54=>193|55=>277|59=>211|60=>212|63=>281|64=>290|68=>166|69=>194|80=>299|81=>127|104=>63|105=>279|106=>280|111=>87|112=>198|114=>278|115=>264|116=>265|117=>266|118=>267|119=>293|122=>263|123=>268|124=>269|127=>276|131=>189|137=>294|138=>295|139=>296|146=>288|151=>289|164=>319|182=>184|183=>185|218=>217|219=>218|220=>219|222=>199|228=>252|229=>39|238=>300|239=>301|240=>302|241=>303|242=>304|243=>305|244=>306|245=>307|246=>308|247=>309|248=>310|249=>311|n=>n,fun|1=>0|3=>1|4=>2|n=>n⟩
theorem Tryz.lays219:Go.Proofs.Lays.n219 prog Tryz.lays219_ren:={
 mixed:=by kernel_rfl
 f217:=func202.trans (congrArg some (by kernel_rfl))
 f219:=func183.trans (congrArg some (by kernel_rfl))
 f224:=func204.trans (congrArg some (by kernel_rfl))
 f225:=func203.trans (congrArg some (by kernel_rfl))
 f266:=func219.trans (congrArg some (by kernel_rfl))
 f267:=func205.trans (congrArg some (by kernel_rfl))
 f314:=func220.trans (congrArg some (by kernel_rfl))
 t3:=underlying3
 a3:=isAgg3
 z3:=sizeOf3
 v3:=zeroValue3
 t4:=underlying4
 a4:=isAgg4
 z4:=sizeOf4
 v4:=zeroValue4
 t5:=underlying5
 a5:=isAgg5
 z5:=sizeOf5
 v5:=zeroValue5
 t9:=underlying9
 a9:=isAgg9
 z9:=sizeOf9
 v9:=zeroValue9
 t46:=underlying164
 a46:=isAgg164
 z46:=sizeOf164
 v46:=zeroValue164
 t51:=underlying192
 a51:=isAgg192
 z51:=sizeOf192
 v51:=zeroValue192
 t146:=underlying288
 a146:=isAgg288
 z146:=sizeOf288
 v146:=zeroValue288
 g1:=by kernel_rfl }
end Go.Proofs
