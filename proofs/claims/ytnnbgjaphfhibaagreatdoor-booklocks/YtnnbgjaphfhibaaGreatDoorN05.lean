import Derived.Shelf.Strings.Prefix
import Derived.Test.YtnnbgjaphfhibaaGreatDoorProg
import Derived.Shelf.Strconv.Clone
set_option linter.unusedVariables false
set_option linter.unusedSimpArgs false
set_option maxRecDepth 100000
set_option maxHeartbeats 6400000
open Go.Proofs.Tryz
namespace Go.Proofs
open Go.Shelf
def Tryz.lays99_ren:Go.Shelf.Ren:=⟨fun|99=>234|206=>170|n=>n,fun|22=>244|24=>150|25=>151|27=>87|28=>43|30=>76|32=>153|33=>113|37=>90|40=>300|41=>110|42=>274|46=>157|47=>156|48=>185|49=>338|51=>199|52=>198|53=>201|54=>200|55=>297|67=>120|69=>98|70=>89|71=>91|72=>92|73=>162|74=>93|75=>94|76=>95|77=>96|79=>288|80=>100|81=>164|83=>97|84=>160|85=>306|86=>307|100=>161|101=>49|103=>152|104=>34|105=>289|106=>290|108=>315|111=>165|114=>251|119=>301|126=>298|127=>121|128=>299|131=>80|135=>207|137=>302|138=>303|139=>304|143=>317|144=>318|145=>319|164=>158|165=>159|166=>260|167=>305|168=>308|169=>309|170=>310|171=>202|172=>203|173=>204|174=>205|175=>311|176=>312|182=>192|183=>193|188=>255|189=>256|190=>257|191=>258|192=>259|209=>313|210=>314|211=>252|212=>253|213=>254|214=>316|218=>245|219=>246|220=>247|222=>249|224=>284|225=>285|228=>281|229=>282|231=>295|232=>293|233=>294|238=>320|239=>321|240=>322|241=>323|242=>324|243=>326|244=>174|245=>327|246=>328|247=>329|248=>330|249=>331|n=>n,fun|1=>7|3=>10|4=>11|15=>12|16=>13|17=>5|18=>8|19=>9|n=>n⟩
theorem Tryz.lays99:Go.Proofs.Lays.n99 prog Tryz.lays99_ren:={
 mixed:=by kernel_rfl
 f99:=func234.trans (congrArg some (by kernel_rfl))
 f206:=func170.trans (congrArg some (by kernel_rfl))
 t3:=underlying3
 a3:=isAgg3
 z3:=sizeOf3
 v3:=zeroValue3
 t4:=underlying4
 a4:=isAgg4
 z4:=sizeOf4
 v4:=zeroValue4
 t9:=underlying9
 a9:=isAgg9
 z9:=sizeOf9
 v9:=zeroValue9 }
end Go.Proofs
namespace Go.Proofs
open Go.Shelf
def Tryz.lays316_ren:Go.Shelf.Ren:=⟨fun|316=>217|n=>n,fun|22=>244|24=>150|25=>151|27=>87|28=>43|30=>76|32=>153|33=>113|37=>90|40=>300|41=>110|42=>274|46=>157|47=>156|48=>185|49=>338|51=>199|52=>198|53=>201|54=>200|55=>297|67=>120|69=>98|70=>89|71=>91|72=>92|73=>162|74=>93|75=>94|76=>95|77=>96|79=>288|80=>100|81=>164|83=>97|84=>160|85=>306|86=>307|100=>161|101=>49|103=>152|104=>34|105=>289|106=>290|108=>315|111=>165|114=>251|119=>301|126=>298|127=>121|128=>299|131=>80|135=>207|137=>302|138=>303|139=>304|143=>317|144=>318|145=>319|164=>158|165=>159|166=>260|167=>305|168=>308|169=>309|170=>310|171=>202|172=>203|173=>204|174=>205|175=>311|176=>312|182=>192|183=>193|188=>255|189=>256|190=>257|191=>258|192=>259|209=>313|210=>314|211=>252|212=>253|213=>254|214=>316|218=>245|219=>246|220=>247|222=>249|224=>284|225=>285|228=>281|229=>282|231=>295|232=>293|233=>294|238=>320|239=>321|240=>322|241=>323|242=>324|243=>326|244=>174|245=>327|246=>328|247=>329|248=>330|249=>331|n=>n,fun|1=>7|3=>10|4=>11|15=>12|16=>13|17=>5|18=>8|19=>9|n=>n⟩
theorem Tryz.lays316:Go.Proofs.LaysM.n316 prog Tryz.lays316_ren:={
 mixed:=by kernel_rfl
 f316:=func217.trans (congrArg some (by kernel_rfl))
 t0:=underlying0
 a0:=isAgg0
 z0:=sizeOf0
 v0:=zeroValue0
 t3:=underlying3
 a3:=isAgg3
 z3:=sizeOf3
 v3:=zeroValue3
 t4:=underlying4
 a4:=isAgg4
 z4:=sizeOf4
 v4:=zeroValue4
 t9:=underlying9
 a9:=isAgg9
 z9:=sizeOf9
 v9:=zeroValue9
 t37:=underlying90
 a37:=isAgg90
 z37:=sizeOf90
 v37:=zeroValue90
 t127:=underlying121
 a127:=isAgg121
 z127:=sizeOf121
 v127:=zeroValue121
 t5:=underlying5
 a5:=isAgg5
 z5:=sizeOf5
 v5:=zeroValue5
 i0:=by kernel_rfl
 i3:=by kernel_rfl
 i4:=by kernel_rfl
 i5:=by kernel_rfl
 i9:=by kernel_rfl
 i37:=by kernel_rfl
 i127:=by kernel_rfl }
end Go.Proofs
