import Derived.Shelf.Strings.Prefix
import Derived.Test.YtbcfhgpfgdbjgaaGreatDoorProg
import Derived.Shelf.Small.Wraps
import Derived.Shelf.Strings.Trim
import Derived.Shelf.Strings.Search2
set_option linter.all false
set_option maxRecDepth 100000
set_option maxHeartbeats 0
open Go.Proofs.Tryz
namespace Go.Proofs
open Go.Shelf
def Tryz.lays99_ren:Go.Shelf.Ren:=⟨fun|99=>158|206=>178|n=>n,fun|22=>258|23=>316|27=>269|28=>46|30=>50|31=>113|37=>245|40=>290|41=>82|42=>204|43=>268|46=>282|47=>281|48=>123|49=>380|51=>292|52=>312|53=>314|54=>313|55=>271|59=>283|60=>284|63=>342|64=>346|69=>209|70=>249|71=>250|72=>251|76=>205|77=>257|79=>254|80=>160|81=>134|83=>247|84=>343|85=>298|86=>299|104=>37|105=>255|106=>256|108=>322|111=>135|112=>195|114=>289|115=>329|116=>330|117=>331|118=>332|119=>293|122=>328|123=>333|124=>334|126=>272|127=>273|128=>274|131=>310|137=>294|138=>295|139=>296|143=>336|144=>337|145=>338|146=>344|151=>345|164=>137|165=>291|167=>297|168=>300|169=>301|170=>302|171=>347|172=>348|173=>349|174=>350|175=>318|176=>319|182=>305|183=>306|209=>320|210=>321|211=>351|212=>352|213=>353|214=>335|218=>323|219=>324|220=>325|222=>196|228=>339|229=>340|232=>354|233=>355|238=>356|239=>357|240=>358|241=>359|242=>360|243=>362|244=>145|245=>363|246=>364|247=>365|248=>366|249=>367|n=>n,fun|1=>10|3=>6|4=>7|15=>8|16=>9|17=>11|18=>12|19=>13|n=>n⟩
theorem Tryz.lays99:Go.Proofs.Lays.n99 prog Tryz.lays99_ren:={
 mixed:=by kernel_rfl
 f99:=func158.trans (congrArg some (by kernel_rfl))
 f206:=func178.trans (congrArg some (by kernel_rfl))
 t3:=underlying3
 a3:=isAgg3
 z3:=sizeOf3
 v3:=zeroValue3
 t4:=underlying4
 a4:=isAgg4
 z4:=sizeOf4
 v4:=zeroValue4
 t9:=underlying9
 a9:=isAgg9
 z9:=sizeOf9
 v9:=zeroValue9 }
end Go.Proofs
namespace Go.Proofs
open Go.Shelf
def Tryz.lays122_ren:Go.Shelf.Ren:=⟨fun|122=>167|215=>193|n=>n,fun|22=>258|23=>316|27=>269|28=>46|30=>50|31=>113|37=>245|40=>290|41=>82|42=>204|43=>268|46=>282|47=>281|48=>123|49=>380|51=>292|52=>312|53=>314|54=>313|55=>271|59=>283|60=>284|63=>342|64=>346|69=>209|70=>249|71=>250|72=>251|76=>205|77=>257|79=>254|80=>160|81=>134|83=>247|84=>343|85=>298|86=>299|104=>37|105=>255|106=>256|108=>322|111=>135|112=>195|114=>289|115=>329|116=>330|117=>331|118=>332|119=>293|122=>328|123=>333|124=>334|126=>272|127=>273|128=>274|131=>310|137=>294|138=>295|139=>296|143=>336|144=>337|145=>338|146=>344|151=>345|164=>137|165=>291|167=>297|168=>300|169=>301|170=>302|171=>347|172=>348|173=>349|174=>350|175=>318|176=>319|182=>305|183=>306|209=>320|210=>321|211=>351|212=>352|213=>353|214=>335|218=>323|219=>324|220=>325|222=>196|228=>339|229=>340|232=>354|233=>355|238=>356|239=>357|240=>358|241=>359|242=>360|243=>362|244=>145|245=>363|246=>364|247=>365|248=>366|249=>367|n=>n,fun|1=>10|3=>6|4=>7|15=>8|16=>9|17=>11|18=>12|19=>13|n=>n⟩
theorem Tryz.lays122:Go.Proofs.Lays.n122 prog Tryz.lays122_ren:={
 mixed:=by kernel_rfl
 f122:=func167.trans (congrArg some (by kernel_rfl))
 f215:=func193.trans (congrArg some (by kernel_rfl))
 t3:=underlying3
 a3:=isAgg3
 z3:=sizeOf3
 v3:=zeroValue3
 t4:=underlying4
 a4:=isAgg4
 z4:=sizeOf4
 v4:=zeroValue4 }
def Tryz.lays161_ren:Go.Shelf.Ren:=⟨fun|119=>197|137=>172|151=>242|152=>245|161=>219|197=>152|217=>198|224=>239|225=>238|227=>231|228=>241|231=>230|233=>232|235=>233|260=>175|266=>220|n=>n,fun|22=>258|23=>316|27=>269|28=>46|30=>50|31=>113|37=>245|40=>290|41=>82|42=>204|43=>268|46=>282|47=>281|48=>123|49=>380|51=>292|52=>312|53=>314|54=>313|55=>271|59=>283|60=>284|63=>342|64=>346|69=>209|70=>249|71=>250|72=>251|76=>205|77=>257|79=>254|80=>160|81=>134|83=>247|84=>343|85=>298|86=>299|104=>37|105=>255|106=>256|108=>322|111=>135|112=>195|114=>289|115=>329|116=>330|117=>331|118=>332|119=>293|122=>328|123=>333|124=>334|126=>272|127=>273|128=>274|131=>310|137=>294|138=>295|139=>296|143=>336|144=>337|145=>338|146=>344|151=>345|164=>137|165=>291|167=>297|168=>300|169=>301|170=>302|171=>347|172=>348|173=>349|174=>350|175=>318|176=>319|182=>305|183=>306|209=>320|210=>321|211=>351|212=>352|213=>353|214=>335|218=>323|219=>324|220=>325|222=>196|228=>339|229=>340|232=>354|233=>355|238=>356|239=>357|240=>358|241=>359|242=>360|243=>362|244=>145|245=>363|246=>364|247=>365|248=>366|249=>367|n=>n,fun|1=>10|3=>6|4=>7|15=>8|16=>9|17=>11|18=>12|19=>13|n=>n⟩
theorem Tryz.lays161:Go.Proofs.Lays.n161 prog Tryz.lays161_ren:={
 mixed:=by kernel_rfl
 f119:=func197.trans (congrArg some (by kernel_rfl))
 f137:=func172.trans (congrArg some (by kernel_rfl))
 f151:=func242.trans (congrArg some (by kernel_rfl))
 f152:=func245.trans (congrArg some (by kernel_rfl))
 f161:=func219.trans (congrArg some (by kernel_rfl))
 f197:=func152.trans (congrArg some (by kernel_rfl))
 f217:=func198.trans (congrArg some (by kernel_rfl))
 f224:=func239.trans (congrArg some (by kernel_rfl))
 f225:=func238.trans (congrArg some (by kernel_rfl))
 f227:=func231.trans (congrArg some (by kernel_rfl))
 f228:=func241.trans (congrArg some (by kernel_rfl))
 f231:=func230.trans (congrArg some (by kernel_rfl))
 f233:=func232.trans (congrArg some (by kernel_rfl))
 f235:=func233.trans (congrArg some (by kernel_rfl))
 f260:=func175.trans (congrArg some (by kernel_rfl))
 f266:=func220.trans (congrArg some (by kernel_rfl))
 t0:=underlying0
 a0:=isAgg0
 z0:=sizeOf0
 v0:=zeroValue0
 t3:=underlying3
 a3:=isAgg3
 z3:=sizeOf3
 v3:=zeroValue3
 t4:=underlying4
 a4:=isAgg4
 z4:=sizeOf4
 v4:=zeroValue4
 t5:=underlying5
 a5:=isAgg5
 z5:=sizeOf5
 v5:=zeroValue5
 t9:=underlying9
 a9:=isAgg9
 z9:=sizeOf9
 v9:=zeroValue9
 t21:=underlying21
 a21:=isAgg21
 z21:=sizeOf21
 v21:=zeroValue21
 t46:=underlying282
 a46:=isAgg282
 z46:=sizeOf282
 v46:=zeroValue282
 t105:=underlying255
 a105:=isAgg255
 z105:=sizeOf255
 v105:=zeroValue255
 t116:=underlying330
 a116:=isAgg330
 z116:=sizeOf330
 t117:=underlying331
 a117:=isAgg331
 z117:=sizeOf331
 v117:=zeroValue331
 t119:=underlying293
 a119:=isAgg293
 z119:=sizeOf293
 t124:=underlying334
 a124:=isAgg334
 z124:=sizeOf334
 v124:=zeroValue334
 t138:=underlying295
 a138:=isAgg295
 z138:=sizeOf295
 v138:=zeroValue295
 t139:=underlying296
 a139:=isAgg296
 z139:=sizeOf296
 v139:=zeroValue296
 g3:=by kernel_rfl
 g4:=by kernel_rfl }
def Tryz.lays219_ren:Go.Shelf.Ren:=⟨fun|217=>198|219=>229|224=>239|225=>238|266=>220|267=>240|314=>244|n=>n,fun|22=>258|23=>316|27=>269|28=>46|30=>50|31=>113|37=>245|40=>290|41=>82|42=>204|43=>268|46=>282|47=>281|48=>123|49=>380|51=>292|52=>312|53=>314|54=>313|55=>271|59=>283|60=>284|63=>342|64=>346|69=>209|70=>249|71=>250|72=>251|76=>205|77=>257|79=>254|80=>160|81=>134|83=>247|84=>343|85=>298|86=>299|104=>37|105=>255|106=>256|108=>322|111=>135|112=>195|114=>289|115=>329|116=>330|117=>331|118=>332|119=>293|122=>328|123=>333|124=>334|126=>272|127=>273|128=>274|131=>310|137=>294|138=>295|139=>296|143=>336|144=>337|145=>338|146=>344|151=>345|164=>137|165=>291|167=>297|168=>300|169=>301|170=>302|171=>347|172=>348|173=>349|174=>350|175=>318|176=>319|182=>305|183=>306|209=>320|210=>321|211=>351|212=>352|213=>353|214=>335|218=>323|219=>324|220=>325|222=>196|228=>339|229=>340|232=>354|233=>355|238=>356|239=>357|240=>358|241=>359|242=>360|243=>362|244=>145|245=>363|246=>364|247=>365|248=>366|249=>367|n=>n,fun|1=>10|3=>6|4=>7|15=>8|16=>9|17=>11|18=>12|19=>13|n=>n⟩
theorem Tryz.lays219:Go.Proofs.Lays.n219 prog Tryz.lays219_ren:={
 mixed:=by kernel_rfl
 f217:=func198.trans (congrArg some (by kernel_rfl))
 f219:=func229.trans (congrArg some (by kernel_rfl))
 f224:=func239.trans (congrArg some (by kernel_rfl))
 f225:=func238.trans (congrArg some (by kernel_rfl))
 f266:=func220.trans (congrArg some (by kernel_rfl))
 f267:=func240.trans (congrArg some (by kernel_rfl))
 f314:=func244.trans (congrArg some (by kernel_rfl))
 t3:=underlying3
 a3:=isAgg3
 z3:=sizeOf3
 v3:=zeroValue3
 t4:=underlying4
 a4:=isAgg4
 z4:=sizeOf4
 v4:=zeroValue4
 t5:=underlying5
 a5:=isAgg5
 z5:=sizeOf5
 v5:=zeroValue5
 t9:=underlying9
 a9:=isAgg9
 z9:=sizeOf9
 v9:=zeroValue9
 t46:=underlying282
 a46:=isAgg282
 z46:=sizeOf282
 v46:=zeroValue282
 t51:=underlying292
 a51:=isAgg292
 z51:=sizeOf292
 v51:=zeroValue292
 t146:=underlying344
 a146:=isAgg344
 z146:=sizeOf344
 v146:=zeroValue344
 g1:=by kernel_rfl }
end Go.Proofs
