/-
  Parts of the proof.
-/
import Derived.Shelf.Small.Utf8
import Derived.Shelf.Small.Wraps
import Derived.Shelf.Strings.BuilderK
import Derived.Shelf.Strconv.Itoa3
import Derived.Shelf.Strconv.AtoiAll
import Derived.Shelf.Strings.Shaped
import Derived.Shelf.Strings.LastIndex
import Derived.Shelf.GgClosure.StringsIndexFuncTop
import Derived.Shelf.Strings.Split
import Derived.Shelf.Strings.IndexAnyAll
import Derived.Shelf.Unicode.DecodeSlow
import Derived.Shelf.Slices.Turned
import Derived.Shelf.SlicesE.DeleteFunc
import Derived.Test.YtjfiehbcamfdfaaGreatDoorQy9
import Derived.Test.YtjfiehbcamfdfaaGreatDoorQy8
import Derived.Deep.AppendLies
namespace Go.Proofs
open Go.Shelf
def Tryz.xS:Go.Shelf.Ren:=⟨fun|169=>40|n=>n,fun|70=>96|9=>9|0=>0|72=>99|37=>97|127=>165|3=>3|5=>5|n=>n,fun|n=>n⟩
theorem Tryz.Zh:Go.Proofs.Lays.n169 prog Tryz.xS:={
  mixed:=by kernel_rfl
  f169:=func40.trans (congrArg some (by kernel_rfl))
  t0:=underlying0
  a0:=Tryz.isAgg0
  z0:=Tryz.sizeOf0
  v0:=Tryz.zeroValue0
  t3:=underlying3
  a3:=Tryz.isAgg3
  z3:=Tryz.sizeOf3
  v3:=Tryz.zeroValue3
  t9:=underlying9
  a9:=Tryz.isAgg9
  z9:=Tryz.sizeOf9
  v9:=Tryz.zeroValue9
  t37:=underlying97
  a37:=Tryz.isAgg97
  z37:=Tryz.sizeOf97
  v37:=Tryz.zeroValue97
  t70:=underlying96
  a70:=Tryz.isAgg96
  z70:=Tryz.sizeOf96
  v70:=Tryz.zeroValue96
  t72:=underlying99
  a72:=Tryz.isAgg99
  z72:=Tryz.sizeOf99
  v72:=Tryz.zeroValue99
  t127:=underlying165
  a127:=Tryz.isAgg165
  z127:=Tryz.sizeOf165
  v127:=Tryz.zeroValue165}
theorem Tryz.uV:Builder.Extra prog Tryz.xS:={
  sizeBuilder:=by kernel_rfl
  liesBuilder:=by kernel_rfl
  t5:=underlying5
  a5:=Tryz.isAgg5
  z5:=Tryz.sizeOf5
  v5:=Tryz.zeroValue5
  infoByte:=by kernel_rfl
  cellsByte:=by kernel_rfl
  sizeByte:=by kernel_rfl
  neB5:=by decide}
def Tryz.Iw:Go.Shelf.Ren:=⟨fun|137=>117|217=>160|266=>209|n=>n,fun|9=>9|5=>5|3=>3|n=>n,fun|n=>n⟩
theorem Tryz.Zj:Go.Proofs.Lays.n137 prog Tryz.Iw:={
  mixed:=by kernel_rfl
  f137:=func117.trans (congrArg some (by kernel_rfl))
  f217:=func160.trans (congrArg some (by kernel_rfl))
  f266:=func209.trans (congrArg some (by kernel_rfl))
  t3:=underlying3
  a3:=Tryz.isAgg3
  z3:=Tryz.sizeOf3
  v3:=Tryz.zeroValue3
  t5:=underlying5
  a5:=Tryz.isAgg5
  z5:=Tryz.sizeOf5
  v5:=Tryz.zeroValue5
  t9:=underlying9
  a9:=Tryz.isAgg9
  z9:=Tryz.sizeOf9
  v9:=Tryz.zeroValue9}
open Go.RowKit in
theorem Tryz.strings_IndexByte (s:ByteArray)(c:Int)(w:World):
    Calls prog 117 #[.string s,.int .u8 c] w fun e w'=>e= .returned (.int .i64 (Lib.indexByte s.data.toList c.toNat.toUInt8))/\ w'=w:=Any.strings_IndexByte Tryz.Zj s c w
def Tryz.Iy:Go.Shelf.Ren:=⟨fun|103=>115|210=>159|206=>163|n=>n,fun|9=>9|4=>4|24=>51|3=>3|n=>n,fun|n=>n⟩
theorem Tryz.Zk:Go.Proofs.Lays.n103 prog Tryz.Iy:={
  mixed:=by kernel_rfl
  f103:=func115.trans (congrArg some (by kernel_rfl))
  f206:=func163.trans (congrArg some (by kernel_rfl))
  f210:=func159.trans (congrArg some (by kernel_rfl))
  t3:=underlying3
  a3:=Tryz.isAgg3
  z3:=Tryz.sizeOf3
  v3:=Tryz.zeroValue3
  t4:=underlying4
  a4:=Tryz.isAgg4
  z4:=Tryz.sizeOf4
  v4:=Tryz.zeroValue4
  t9:=underlying9
  a9:=Tryz.isAgg9
  z9:=Tryz.sizeOf9
  v9:=Tryz.zeroValue9
  t24:=underlying51
  a24:=Tryz.isAgg51
  z24:=Tryz.sizeOf51
  v24:=Tryz.zeroValue51}
open Go.RowKit in
theorem Tryz.strings_CutPrefix (s p:ByteArray)(w:World):
    Calls prog 115 #[.string s,.string p] w fun e w'=>e= .returned (.tuple #[.string ⟨(Lib.trimPrefix s.data.toList p.data.toList).toArray⟩,.bool (Lib.hasPrefix s.data.toList p.data.toList)])/\ w'=w:=Any.strings_CutPrefix Tryz.Zk s p w
open Go.RowKit in
theorem Tryz.Builder_String_any_k (B b:Nat)(l:List UInt8)(w:World)(h:Lib.IsBuilderF 99 5 B b (Lib.byteCells l) w)(hBw:B<=w.heap.size):
    Calls prog 40 #[.pointer (some ⟨b,0,none⟩)] w fun e w'=>e= .returned (.string ⟨l.toArray⟩)/\ (Lib.IsBuilderF 99 5 B b (Lib.byteCells l) w'/\ Below B w w'/\ Lib.OthersKept 5 (some b) w w'):=Any.Builder_String_any_k Tryz.Zh Tryz.uV B b l w h hBw
def Tryz.Fq:Go.Shelf.Ren:=⟨fun|171=>231|243=>259|246=>280|283=>288|284=>289|285=>290|286=>291|129=>298|317=>297|318=>299|319=>300|320=>301|337=>303|338=>304|n=>n,fun|3=>3|9=>9|2=>2|4=>4|171=>382|0=>0|53=>313|37=>97|5=>5|173=>385|212=>394|51=>291|20=>20|213=>395|46=>239|232=>402|233=>403|n=>n,fun|17=>14|18=>17|19=>18|n=>n⟩
theorem Tryz.UD:Go.Proofs.LaysM.n171 prog Tryz.Fq:={
  mixed:=by kernel_rfl
  f129:=func298.trans (congrArg some (by kernel_rfl))
  f171:=func231.trans (congrArg some (by kernel_rfl))
  f243:=func259.trans (congrArg some (by kernel_rfl))
  f246:=func280.trans (congrArg some (by kernel_rfl))
  f283:=func288.trans (congrArg some (by kernel_rfl))
  f284:=func289.trans (congrArg some (by kernel_rfl))
  f285:=func290.trans (congrArg some (by kernel_rfl))
  f286:=func291.trans (congrArg some (by kernel_rfl))
  f317:=func297.trans (congrArg some (by kernel_rfl))
  f318:=func299.trans (congrArg some (by kernel_rfl))
  f319:=func300.trans (congrArg some (by kernel_rfl))
  f320:=func301.trans (congrArg some (by kernel_rfl))
  f337:=func303.trans (congrArg some (by kernel_rfl))
  f338:=func304.trans (congrArg some (by kernel_rfl))
  t0:=underlying0
  a0:=Tryz.isAgg0
  z0:=Tryz.sizeOf0
  v0:=Tryz.zeroValue0
  t2:=underlying2
  a2:=Tryz.isAgg2
  z2:=Tryz.sizeOf2
  v2:=Tryz.zeroValue2
  t3:=underlying3
  a3:=Tryz.isAgg3
  z3:=Tryz.sizeOf3
  v3:=Tryz.zeroValue3
  t4:=underlying4
  a4:=Tryz.isAgg4
  z4:=Tryz.sizeOf4
  v4:=Tryz.zeroValue4
  t5:=underlying5
  a5:=Tryz.isAgg5
  z5:=Tryz.sizeOf5
  v5:=Tryz.zeroValue5
  t9:=underlying9
  a9:=Tryz.isAgg9
  z9:=Tryz.sizeOf9
  v9:=Tryz.zeroValue9
  t20:=underlying20
  a20:=Tryz.isAgg20
  z20:=Tryz.sizeOf20
  v20:=Tryz.zeroValue20
  t37:=underlying97
  a37:=Tryz.isAgg97
  z37:=Tryz.sizeOf97
  v37:=Tryz.zeroValue97
  t46:=underlying239
  a46:=Tryz.isAgg239
  z46:=Tryz.sizeOf239
  v46:=Tryz.zeroValue239
  t51:=underlying291
  a51:=Tryz.isAgg291
  z51:=Tryz.sizeOf291
  v51:=Tryz.zeroValue291
  t53:=underlying313
  a53:=Tryz.isAgg313
  z53:=Tryz.sizeOf313
  v53:=Tryz.zeroValue313
  t171:=underlying382
  a171:=Tryz.isAgg382
  z171:=Tryz.sizeOf382
  v171:=Tryz.zeroValue382
  t173:=underlying385
  a173:=Tryz.isAgg385
  z173:=Tryz.sizeOf385
  v173:=Tryz.zeroValue385
  t212:=underlying394
  a212:=Tryz.isAgg394
  z212:=Tryz.sizeOf394
  v212:=Tryz.zeroValue394
  t213:=underlying395
  a213:=Tryz.isAgg395
  z213:=Tryz.sizeOf395
  t232:=underlying402
  a232:=Tryz.isAgg402
  z232:=Tryz.sizeOf402
  v232:=Tryz.zeroValue402
  t233:=underlying403
  a233:=Tryz.isAgg403
  z233:=Tryz.sizeOf403
  v233:=Tryz.zeroValue403
  g17:=by kernel_rfl
  g18:=by kernel_rfl
  g19:=by kernel_rfl
  i0:=by kernel_rfl
  i2:=by kernel_rfl
  i3:=by kernel_rfl
  i4:=by kernel_rfl
  i5:=by kernel_rfl
  i9:=by kernel_rfl
  i20:=by kernel_rfl
  i37:=by kernel_rfl
  i46:=by kernel_rfl
  i51:=by kernel_rfl
  i53:=by kernel_rfl
  i171:=by kernel_rfl
  i173:=by kernel_rfl
  i212:=by kernel_rfl
  i232:=by kernel_rfl
  i233:=by kernel_rfl
  m17:=by kernel_rfl
  m18:=by kernel_rfl
  m19:=by kernel_rfl}
open Go.RowKit Go.Sort Go.Lib in
theorem Tryz.strconv_Itoa (n:Int)(h0: -9223372036854775808<=n)(h1:n<=9223372036854775807)(w:World)(htab:Lib.TabIs prog w "internal/strconv.uint64pow10" .u64 Lib.pow10Tab):
    Calls prog 231 #[.int .i64 n] w fun e w'=>e= .returned (.string ⟨(Lib.itoa n).toArray⟩)/\ ∃k os,w'=grow (w.drewN k) os:=Any.strconv_Itoa Tryz.UD n h0 h1 w htab
def Tryz.Fs:Go.Shelf.Ren:=⟨fun|172=>230|244=>257|245=>258|247=>275|279=>276|280=>277|281=>278|282=>279|287=>285|316=>286|171=>231|205=>287|321=>295|322=>296|243=>259|246=>280|283=>288|284=>289|285=>290|286=>291|129=>298|317=>297|318=>299|319=>300|320=>301|337=>303|338=>304|n=>n,fun|9=>9|3=>3|75=>33|76=>142|4=>4|5=>5|167=>369|37=>97|0=>0|85=>370|2=>2|168=>372|53=>313|175=>377|46=>239|210=>380|127=>165|145=>392|143=>390|21=>21|171=>382|173=>385|212=>394|51=>291|20=>20|213=>395|232=>402|233=>403|80=>60|n=>n,fun|15=>12|16=>13|17=>14|18=>17|19=>18|n=>n⟩
theorem Tryz.Ai:Go.Proofs.LaysC.n172 prog Tryz.Fs:={
  mixed:=by kernel_rfl
  f129:=func298.trans (congrArg some (by kernel_rfl))
  f171:=func231.trans (congrArg some (by kernel_rfl))
  f172:=func230.trans (congrArg some (by kernel_rfl))
  f205:=func287.trans (congrArg some (by kernel_rfl))
  f243:=func259.trans (congrArg some (by kernel_rfl))
  f244:=func257.trans (congrArg some (by kernel_rfl))
  f245:=func258.trans (congrArg some (by kernel_rfl))
  f246:=func280.trans (congrArg some (by kernel_rfl))
  f247:=func275.trans (congrArg some (by kernel_rfl))
  f279:=func276.trans (congrArg some (by kernel_rfl))
  f280:=func277.trans (congrArg some (by kernel_rfl))
  f281:=func278.trans (congrArg some (by kernel_rfl))
  f282:=func279.trans (congrArg some (by kernel_rfl))
  f283:=func288.trans (congrArg some (by kernel_rfl))
  f284:=func289.trans (congrArg some (by kernel_rfl))
  f285:=func290.trans (congrArg some (by kernel_rfl))
  f286:=func291.trans (congrArg some (by kernel_rfl))
  f287:=func285.trans (congrArg some (by kernel_rfl))
  f316:=func286.trans (congrArg some (by kernel_rfl))
  f317:=func297.trans (congrArg some (by kernel_rfl))
  f318:=func299.trans (congrArg some (by kernel_rfl))
  f319:=func300.trans (congrArg some (by kernel_rfl))
  f320:=func301.trans (congrArg some (by kernel_rfl))
  f321:=func295.trans (congrArg some (by kernel_rfl))
  f322:=func296.trans (congrArg some (by kernel_rfl))
  f337:=func303.trans (congrArg some (by kernel_rfl))
  f338:=func304.trans (congrArg some (by kernel_rfl))
  t0:=underlying0
  a0:=Tryz.isAgg0
  z0:=Tryz.sizeOf0
  v0:=Tryz.zeroValue0
  t2:=underlying2
  a2:=Tryz.isAgg2
  z2:=Tryz.sizeOf2
  v2:=Tryz.zeroValue2
  t3:=underlying3
  a3:=Tryz.isAgg3
  z3:=Tryz.sizeOf3
  v3:=Tryz.zeroValue3
  t4:=underlying4
  a4:=Tryz.isAgg4
  z4:=Tryz.sizeOf4
  v4:=Tryz.zeroValue4
  t5:=underlying5
  a5:=Tryz.isAgg5
  z5:=Tryz.sizeOf5
  v5:=Tryz.zeroValue5
  t9:=underlying9
  a9:=Tryz.isAgg9
  z9:=Tryz.sizeOf9
  v9:=Tryz.zeroValue9
  t20:=underlying20
  a20:=Tryz.isAgg20
  z20:=Tryz.sizeOf20
  v20:=Tryz.zeroValue20
  t21:=underlying21
  a21:=Tryz.isAgg21
  z21:=Tryz.sizeOf21
  v21:=Tryz.zeroValue21
  t37:=underlying97
  a37:=Tryz.isAgg97
  z37:=Tryz.sizeOf97
  v37:=Tryz.zeroValue97
  t46:=underlying239
  a46:=Tryz.isAgg239
  z46:=Tryz.sizeOf239
  v46:=Tryz.zeroValue239
  t51:=underlying291
  a51:=Tryz.isAgg291
  z51:=Tryz.sizeOf291
  v51:=Tryz.zeroValue291
  t53:=underlying313
  a53:=Tryz.isAgg313
  z53:=Tryz.sizeOf313
  v53:=Tryz.zeroValue313
  t75:=underlying33
  a75:=Tryz.isAgg33
  z75:=Tryz.sizeOf33
  v75:=Tryz.zeroValue33
  t76:=underlying142
  a76:=Tryz.isAgg142
  z76:=Tryz.sizeOf142
  v76:=Tryz.zeroValue142
  t85:=underlying370
  a85:=Tryz.isAgg370
  z85:=Tryz.sizeOf370
  v85:=Tryz.zeroValue370
  t127:=underlying165
  a127:=Tryz.isAgg165
  z127:=Tryz.sizeOf165
  v127:=Tryz.zeroValue165
  t143:=underlying390
  a143:=Tryz.isAgg390
  z143:=Tryz.sizeOf390
  v143:=Tryz.zeroValue390
  t145:=underlying392
  a145:=Tryz.isAgg392
  z145:=Tryz.sizeOf392
  v145:=Tryz.zeroValue392
  t167:=underlying369
  a167:=Tryz.isAgg369
  z167:=Tryz.sizeOf369
  v167:=Tryz.zeroValue369
  t168:=underlying372
  a168:=Tryz.isAgg372
  z168:=Tryz.sizeOf372
  v168:=Tryz.zeroValue372
  t171:=underlying382
  a171:=Tryz.isAgg382
  z171:=Tryz.sizeOf382
  v171:=Tryz.zeroValue382
  t173:=underlying385
  a173:=Tryz.isAgg385
  z173:=Tryz.sizeOf385
  v173:=Tryz.zeroValue385
  t175:=underlying377
  a175:=Tryz.isAgg377
  z175:=Tryz.sizeOf377
  v175:=Tryz.zeroValue377
  t210:=underlying380
  a210:=Tryz.isAgg380
  z210:=Tryz.sizeOf380
  v210:=Tryz.zeroValue380
  t212:=underlying394
  a212:=Tryz.isAgg394
  z212:=Tryz.sizeOf394
  v212:=Tryz.zeroValue394
  t213:=underlying395
  a213:=Tryz.isAgg395
  z213:=Tryz.sizeOf395
  t232:=underlying402
  a232:=Tryz.isAgg402
  z232:=Tryz.sizeOf402
  v232:=Tryz.zeroValue402
  t233:=underlying403
  a233:=Tryz.isAgg403
  z233:=Tryz.sizeOf403
  v233:=Tryz.zeroValue403
  g15:=by kernel_rfl
  g16:=by kernel_rfl
  g17:=by kernel_rfl
  g18:=by kernel_rfl
  g19:=by kernel_rfl
  t80:=underlying60
  a80:=Tryz.isAgg60
  z80:=Tryz.sizeOf60
  v80:=Tryz.zeroValue60
  i0:=by kernel_rfl
  i2:=by kernel_rfl
  i3:=by kernel_rfl
  i4:=by kernel_rfl
  i5:=by kernel_rfl
  i9:=by kernel_rfl
  i20:=by kernel_rfl
  i21:=by kernel_rfl
  i37:=by kernel_rfl
  i46:=by kernel_rfl
  i51:=by kernel_rfl
  i53:=by kernel_rfl
  i75:=by kernel_rfl
  i76:=by kernel_rfl
  i80:=by kernel_rfl
  i85:=by kernel_rfl
  i127:=by kernel_rfl
  i143:=by kernel_rfl
  i145:=by kernel_rfl
  i167:=by kernel_rfl
  i168:=by kernel_rfl
  i171:=by kernel_rfl
  i173:=by kernel_rfl
  i175:=by kernel_rfl
  i210:=by kernel_rfl
  i212:=by kernel_rfl
  i232:=by kernel_rfl
  i233:=by kernel_rfl
  m15:=by kernel_rfl
  m16:=by kernel_rfl
  m17:=by kernel_rfl
  m18:=by kernel_rfl
  m19:=by kernel_rfl
  c0:=by kernel_rfl
  c2:=by kernel_rfl
  c3:=by kernel_rfl
  c4:=by kernel_rfl
  c5:=by kernel_rfl
  c9:=by kernel_rfl
  c20:=by kernel_rfl
  c21:=by kernel_rfl
  c37:=by kernel_rfl
  c46:=by kernel_rfl
  c51:=by kernel_rfl
  c53:=by kernel_rfl
  c75:=by kernel_rfl
  c76:=by kernel_rfl
  c80:=by kernel_rfl
  c85:=by kernel_rfl
  c127:=by kernel_rfl
  c143:=by kernel_rfl
  c145:=by kernel_rfl
  c167:=by kernel_rfl
  c168:=by kernel_rfl
  c171:=by kernel_rfl
  c173:=by kernel_rfl
  c175:=by kernel_rfl
  c210:=by kernel_rfl
  c212:=by kernel_rfl
  c213:=by kernel_rfl
  c232:=by kernel_rfl
  c233:=by kernel_rfl}
open Go.RowKit in
theorem Tryz.strconv_Atoi_ok (s:ByteArray)(hmax:s.size<=9223372036854775806)(v:Int)(h:Lib.atoiAll s.data.toList= .ok v)(w:World):
    Calls prog 230 #[.string s] w fun e w'=>e= .returned (.tuple #[.int .i64 v,.nilIface])/\ (w'=w \/∃t,w'=Lib.bytesWorld w 5 t):=Any.strconv_Atoi_ok Tryz.Ai s hmax v h w
open Go.RowKit in
theorem Tryz.strconv_Atoi_syntax (s:ByteArray)(hlim:s.size<=281474976710656)(h:Lib.atoiAll s.data.toList= .«syntax»)(ev:Value)(w:World)(hv:w.cell? ⟨12,0,none⟩=some ev)(hev:ev= .nilIface \/∃te pe,ev= .iface te pe):
    Calls prog 230 #[.string s] w fun e w'=>∃N,e= .returned (.tuple #[.int .i64 (0),.iface 372 (.pointer (some ⟨N,0,none⟩))])/\ w.heap.size<=N/\ w'.heap[N]? =some (.cells #[.string ⟨#[65,116,111,105]⟩,.string s,ev] 380 (0,0))/\ Below w.heap.size w w':=Any.strconv_Atoi_syntax Tryz.Ai s hlim h ev w hv hev
open Go.RowKit in
theorem Tryz.strconv_Atoi_range (s:ByteArray)(hlim:s.size<=281474976710656)(h:Lib.atoiAll s.data.toList= .range)(ev:Value)(w:World)(hv:w.cell? ⟨13,0,none⟩=some ev)(hev:ev= .nilIface \/∃te pe,ev= .iface te pe):
    Calls prog 230 #[.string s] w fun e w'=>∃N,e= .returned (.tuple #[.int .i64 (Lib.atoiSat s.data.toList),.iface 372 (.pointer (some ⟨N,0,none⟩))])/\ w.heap.size<=N/\ w'.heap[N]? =some (.cells #[.string ⟨#[65,116,111,105]⟩,.string s,ev] 380 (0,0))/\ Below w.heap.size w w':=Any.strconv_Atoi_range Tryz.Ai s hlim h ev w hv hev
def Tryz.a2L:Go.Shelf.Ren:=⟨fun|219=>122|217=>160|225=>166|224=>167|267=>168|266=>209|314=>211|n=>n,fun|9=>9|3=>3|4=>4|5=>5|46=>239|146=>292|51=>291|n=>n,fun|1=>10|n=>n⟩
theorem Tryz.Zm:Go.Proofs.Lays.n219 prog Tryz.a2L:={
  mixed:=by kernel_rfl
  f217:=func160.trans (congrArg some (by kernel_rfl))
  f219:=func122.trans (congrArg some (by kernel_rfl))
  f224:=func167.trans (congrArg some (by kernel_rfl))
  f225:=func166.trans (congrArg some (by kernel_rfl))
  f266:=func209.trans (congrArg some (by kernel_rfl))
  f267:=func168.trans (congrArg some (by kernel_rfl))
  f314:=func211.trans (congrArg some (by kernel_rfl))
  t3:=underlying3
  a3:=Tryz.isAgg3
  z3:=Tryz.sizeOf3
  v3:=Tryz.zeroValue3
  t4:=underlying4
  a4:=Tryz.isAgg4
  z4:=Tryz.sizeOf4
  v4:=Tryz.zeroValue4
  t5:=underlying5
  a5:=Tryz.isAgg5
  z5:=Tryz.sizeOf5
  v5:=Tryz.zeroValue5
  t9:=underlying9
  a9:=Tryz.isAgg9
  z9:=Tryz.sizeOf9
  v9:=Tryz.zeroValue9
  t46:=underlying239
  a46:=Tryz.isAgg239
  z46:=Tryz.sizeOf239
  v46:=Tryz.zeroValue239
  t51:=underlying291
  a51:=Tryz.isAgg291
  z51:=Tryz.sizeOf291
  v51:=Tryz.zeroValue291
  t146:=underlying292
  a146:=Tryz.isAgg292
  z146:=Tryz.sizeOf292
  v146:=Tryz.zeroValue292
  g1:=by kernel_rfl}
open Go.RowKit Go.Lib in
theorem Tryz.stringslite_Index_one (s:ByteArray)(c:UInt8)(w:World):
    Calls prog 122 #[.string s,.string ⟨#[c]⟩] w fun e w'=>e= .returned (.int .i64 (Lib.indexByte s.data.toList c))/\ w'=w:=Any.stringslite_Index_one Tryz.Zm s c w
def Tryz.IG:Go.Shelf.Ren:=⟨fun|143=>283|219=>122|217=>160|225=>166|224=>167|267=>168|266=>209|314=>211|n=>n,fun|9=>9|3=>3|4=>4|5=>5|46=>239|146=>292|51=>291|n=>n,fun|1=>10|n=>n⟩
theorem Tryz.Zn:Go.Proofs.Lays.n143 prog Tryz.IG:={
  mixed:=by kernel_rfl
  f143:=func283.trans (congrArg some (by kernel_rfl))
  f217:=func160.trans (congrArg some (by kernel_rfl))
  f219:=func122.trans (congrArg some (by kernel_rfl))
  f224:=func167.trans (congrArg some (by kernel_rfl))
  f225:=func166.trans (congrArg some (by kernel_rfl))
  f266:=func209.trans (congrArg some (by kernel_rfl))
  f267:=func168.trans (congrArg some (by kernel_rfl))
  f314:=func211.trans (congrArg some (by kernel_rfl))
  t3:=underlying3
  a3:=Tryz.isAgg3
  z3:=Tryz.sizeOf3
  v3:=Tryz.zeroValue3
  t4:=underlying4
  a4:=Tryz.isAgg4
  z4:=Tryz.sizeOf4
  v4:=Tryz.zeroValue4
  t5:=underlying5
  a5:=Tryz.isAgg5
  z5:=Tryz.sizeOf5
  v5:=Tryz.zeroValue5
  t9:=underlying9
  a9:=Tryz.isAgg9
  z9:=Tryz.sizeOf9
  v9:=Tryz.zeroValue9
  t46:=underlying239
  a46:=Tryz.isAgg239
  z46:=Tryz.sizeOf239
  v46:=Tryz.zeroValue239
  t51:=underlying291
  a51:=Tryz.isAgg291
  z51:=Tryz.sizeOf291
  v51:=Tryz.zeroValue291
  t146:=underlying292
  a146:=Tryz.isAgg292
  z146:=Tryz.sizeOf292
  v146:=Tryz.zeroValue292
  g1:=by kernel_rfl}
def Tryz.II:Go.Shelf.Ren:=⟨fun|138=>282|195=>292|218=>294|143=>283|219=>122|217=>160|225=>166|224=>167|267=>168|266=>209|314=>211|n=>n,fun|9=>9|3=>3|4=>4|5=>5|0=>0|46=>239|146=>292|51=>291|n=>n,fun|1=>10|n=>n⟩
theorem Tryz.Zo:Go.Proofs.Lays.n138 prog Tryz.II:={
  mixed:=by kernel_rfl
  f138:=func282.trans (congrArg some (by kernel_rfl))
  f143:=func283.trans (congrArg some (by kernel_rfl))
  f195:=func292.trans (congrArg some (by kernel_rfl))
  f217:=func160.trans (congrArg some (by kernel_rfl))
  f218:=func294.trans (congrArg some (by kernel_rfl))
  f219:=func122.trans (congrArg some (by kernel_rfl))
  f224:=func167.trans (congrArg some (by kernel_rfl))
  f225:=func166.trans (congrArg some (by kernel_rfl))
  f266:=func209.trans (congrArg some (by kernel_rfl))
  f267:=func168.trans (congrArg some (by kernel_rfl))
  f314:=func211.trans (congrArg some (by kernel_rfl))
  t0:=underlying0
  a0:=Tryz.isAgg0
  z0:=Tryz.sizeOf0
  v0:=Tryz.zeroValue0
  t3:=underlying3
  a3:=Tryz.isAgg3
  z3:=Tryz.sizeOf3
  v3:=Tryz.zeroValue3
  t4:=underlying4
  a4:=Tryz.isAgg4
  z4:=Tryz.sizeOf4
  v4:=Tryz.zeroValue4
  t5:=underlying5
  a5:=Tryz.isAgg5
  z5:=Tryz.sizeOf5
  v5:=Tryz.zeroValue5
  t9:=underlying9
  a9:=Tryz.isAgg9
  z9:=Tryz.sizeOf9
  v9:=Tryz.zeroValue9
  t46:=underlying239
  a46:=Tryz.isAgg239
  z46:=Tryz.sizeOf239
  v46:=Tryz.zeroValue239
  t51:=underlying291
  a51:=Tryz.isAgg291
  z51:=Tryz.sizeOf291
  v51:=Tryz.zeroValue291
  t146:=underlying292
  a146:=Tryz.isAgg292
  z146:=Tryz.sizeOf292
  v146:=Tryz.zeroValue292
  g1:=by kernel_rfl}
def Tryz.IL:Go.Shelf.Ren:=⟨fun|221=>264|268=>281|138=>282|143=>283|195=>292|197=>293|218=>294|219=>122|260=>302|217=>160|225=>166|224=>167|267=>168|266=>209|314=>211|n=>n,fun|9=>9|3=>3|31=>38|4=>4|0=>0|105=>387|21=>21|5=>5|46=>239|119=>398|139=>401|138=>400|146=>292|51=>291|n=>n,fun|1=>10|3=>15|4=>16|n=>n⟩
theorem Tryz.Zq:Go.Proofs.Lays.n221 prog Tryz.IL:={
  mixed:=by kernel_rfl
  f138:=func282.trans (congrArg some (by kernel_rfl))
  f143:=func283.trans (congrArg some (by kernel_rfl))
  f195:=func292.trans (congrArg some (by kernel_rfl))
  f197:=func293.trans (congrArg some (by kernel_rfl))
  f217:=func160.trans (congrArg some (by kernel_rfl))
  f218:=func294.trans (congrArg some (by kernel_rfl))
  f219:=func122.trans (congrArg some (by kernel_rfl))
  f221:=func264.trans (congrArg some (by kernel_rfl))
  f224:=func167.trans (congrArg some (by kernel_rfl))
  f225:=func166.trans (congrArg some (by kernel_rfl))
  f260:=func302.trans (congrArg some (by kernel_rfl))
  f266:=func209.trans (congrArg some (by kernel_rfl))
  f267:=func168.trans (congrArg some (by kernel_rfl))
  f268:=func281.trans (congrArg some (by kernel_rfl))
  f314:=func211.trans (congrArg some (by kernel_rfl))
  t0:=underlying0
  a0:=Tryz.isAgg0
  z0:=Tryz.sizeOf0
  v0:=Tryz.zeroValue0
  t3:=underlying3
  a3:=Tryz.isAgg3
  z3:=Tryz.sizeOf3
  v3:=Tryz.zeroValue3
  t4:=underlying4
  a4:=Tryz.isAgg4
  z4:=Tryz.sizeOf4
  v4:=Tryz.zeroValue4
  t5:=underlying5
  a5:=Tryz.isAgg5
  z5:=Tryz.sizeOf5
  v5:=Tryz.zeroValue5
  t9:=underlying9
  a9:=Tryz.isAgg9
  z9:=Tryz.sizeOf9
  v9:=Tryz.zeroValue9
  t21:=underlying21
  a21:=Tryz.isAgg21
  z21:=Tryz.sizeOf21
  v21:=Tryz.zeroValue21
  t31:=underlying38
  a31:=Tryz.isAgg38
  z31:=Tryz.sizeOf38
  v31:=Tryz.zeroValue38
  t46:=underlying239
  a46:=Tryz.isAgg239
  z46:=Tryz.sizeOf239
  v46:=Tryz.zeroValue239
  t51:=underlying291
  a51:=Tryz.isAgg291
  z51:=Tryz.sizeOf291
  v51:=Tryz.zeroValue291
  t105:=underlying387
  a105:=Tryz.isAgg387
  z105:=Tryz.sizeOf387
  v105:=Tryz.zeroValue387
  t119:=underlying398
  a119:=Tryz.isAgg398
  z119:=Tryz.sizeOf398
  t138:=underlying400
  a138:=Tryz.isAgg400
  z138:=Tryz.sizeOf400
  v138:=Tryz.zeroValue400
  t139:=underlying401
  a139:=Tryz.isAgg401
  z139:=Tryz.sizeOf401
  v139:=Tryz.zeroValue401
  t146:=underlying292
  a146:=Tryz.isAgg292
  z146:=Tryz.sizeOf292
  v146:=Tryz.zeroValue292
  g1:=by kernel_rfl
  g3:=by kernel_rfl
  g4:=by kernel_rfl}
end Go.Proofs
namespace Go.Proofs.YtjfiehbcamfdfaaGreatDoor
open Go.Proofs.Tryz
section
open Go.RowKit
set_option maxHeartbeats 1000000
def ahead (c:UInt8):List UInt8->List UInt8
 |[]=>[]
 |b::l=>if b=c then[] else b::ahead c l
def behind (c:UInt8):List UInt8->Option (List UInt8)
 |[]=>none
 |b::l=>if b=c then some l else behind c l
theorem index_none (c:UInt8):∀l:List UInt8,behind c l=none->Lib.indexByte l c= -1/\ahead c l=l
 |[],_=>⟨rfl,rfl⟩
 |b::l,h=>by
  unfold behind at h;split at h
  ·cases h
  ·rename_i hb;obtain⟨h1,h2⟩:=index_none c l h;unfold Lib.indexByte ahead;simp[hb,h1,h2]
theorem oI (c:UInt8):∀(l r:List UInt8),behind c l=some r->∃i:Nat,Lib.indexByte l c=i/\i<l.length/\l.take i=ahead c l/\l.drop (i+1)=r
 |[],_,h=>by cases h
 |b::l,r,h=>by
  unfold behind at h;split at h
  ·rename_i hb;subst hb;cases h;exact⟨0,by unfold Lib.indexByte;simp,by simp,by unfold ahead;simp,rfl⟩
  ·rename_i hb;obtain⟨i,h1,h2,h3,h4⟩:=oI c l r h;refine⟨i+1,?_,by simpa using h2,?_,by simpa using h4⟩
   ·unfold Lib.indexByte;have:((i:Int)== -1)=false:=by rw[beq_eq_false_iff_ne];omega
    simp[hb,h1,this]
   ·unfold ahead;simp[hb,h3]
theorem ext_list {s t:ByteArray}(h:s.data.toList=t.data.toList):s=t:=by
 apply ByteArray.ext;exact Array.toList_inj.1 h
theorem UE (s:ByteArray)(w:World)(h:behind 47 s.data.toList=none):
  ak 77 #[.string s,.string ⟨#[47]⟩] w fun e w'=>e=.returned (.tuple #[.string s,.string ⟨#[]⟩,.bool false])/\∃k,w'=w.drewN k:=by
 obtain⟨hi,_⟩:=index_none 47 _ h;have HI:=Tryz.stringslite_Index_one s 47;rw[hi] at HI;have HH:Hid (∀w,ak 122 #[.string s,.string ⟨#[47]⟩] w fun e w'=>e=.returned (aa (-1))/\w'=w):=HI;clear HI hi h;go_enter func77,ntmps77;go_wp2_with(go_at_call 122;refine(HH.out _).mono ?_;rintro e w' ⟨rfl,rfl⟩);go_ret3;exact⟨rfl,0,rfl⟩
theorem UF (s a b:ByteArray)(w:World)(hb:behind 47 s.data.toList=some b.data.toList)(ha:ahead 47 s.data.toList=a.data.toList)(hm:s.size<=9223372036854775807):
  ak 77 #[.string s,.string ⟨#[47]⟩] w fun e w'=>e=.returned (.tuple #[.string a,.string b,.bool true])/\∃k,w'=w.drewN k:=by
 obtain⟨i,hi,hl,h3,h4⟩:=oI 47 _ _ hb;rw[jB] at hl;have HI:=Tryz.stringslite_Index_one s 47;rw[hi] at HI;have HH:Hid (∀w,ak 122 #[.string s,.string ⟨#[47]⟩] w fun e w'=>e=.returned (aa i)/\w'=w):=HI;have e1:s.extract 0 i=a:=ext_list (by rw[Lib.extract_data];simpa[ha] using h3);have e2:s.extract (i+1) s.size=b:=ext_list (by rw[Lib.extract_to_end];exact h4);clear HI hi h3 h4 ha hb;have hl1:(i:Int)<(s.size:Int):=by omega
 have hl2:(i:Int)+1<=(s.size:Int):=by omega
 have h0:(0:Int)<=(i:Int):=by omega
 go_enter func77,ntmps77;go_wp2_with(go_at_call 122;refine(HH.out _).mono ?_;rintro e w' ⟨rfl,rfl⟩)
 go_quiet (fail)
 go_wp2;go_ret3;exact⟨rfl,_,rfl⟩
theorem Aj (s:ByteArray)(w:World)(h:behind 47 s.data.toList=none):
  ak 44 #[.string s,.string ⟨#[47]⟩] w fun e w'=>e=.returned (.tuple #[.string s,.string ⟨#[]⟩,.bool false])/\∃k,w'=w.drewN k:=by
 have HB:Hid (behind 47 s.data.toList=none):=h;clear h;go_enter func44,ntmps44;go_wp2_with(go_at_call 77;refine(UE s _ HB.out).mono ?_;rintro e w' ⟨rfl,k,rfl⟩);go_ret3;exact⟨rfl,_,rfl⟩
theorem qI (s a b:ByteArray)(w:World)(hb:behind 47 s.data.toList=some b.data.toList)(ha:ahead 47 s.data.toList=a.data.toList)(hm:s.size<=9223372036854775807):
  ak 44 #[.string s,.string ⟨#[47]⟩] w fun e w'=>e=.returned (.tuple #[.string a,.string b,.bool true])/\∃k,w'=w.drewN k:=by
 have HB:Hid (behind 47 s.data.toList=some b.data.toList):=hb;have HA:Hid (ahead 47 s.data.toList=a.data.toList):=ha;clear ha hb;go_enter func44,ntmps44;go_wp2_with(go_at_call 77;refine(UF s a b _ HB.out HA.out hm).mono ?_;rintro e w' ⟨rfl,k,rfl⟩);go_ret3;exact⟨rfl,_,rfl⟩
def iM (l:List UInt8):Option Int:=
 if qd (Lib.trimPrefix l [45])=true/\¬(Lib.hasPrefix l [45]=true/\val (Lib.trimPrefix l [45])=0) then some (if Lib.hasPrefix l [45]=true then -(val (Lib.trimPrefix l [45]):Int) else val (Lib.trimPrefix l [45])) else none
theorem um {l:List UInt8}(h:qd l=true):(val l:Int)<10000000000:=by
 unfold qd at h;rw[Bool.and_eq_true] at h;have:=a2K h.2 (Af.1 h.1).2.1;omega
theorem iR (s:ByteArray)(b:Bool)(v:Int)(w:World)(hb:qd s.data.toList=b)(hv:(if b=true then(val s.data.toList:Int) else 0)=v):
  ak 261 #[.string s] w fun e w'=>e=.returned (.tuple #[aa v,.bool b])/\w'=w:=by
 subst hb;subst hv;exact Ah s w
theorem kD (s t:ByteArray)(b:Bool)(w:World)(ht:Lib.trimPrefix s.data.toList [45]=t.data.toList)(hb:Lib.hasPrefix s.data.toList [45]=b):
  ak 115 #[.string s,.string ⟨#[45]⟩] w fun e w'=>e=.returned (.tuple #[.string t,.bool b])/\w'=w:=by
 have:=Tryz.strings_CutPrefix s ⟨#[45]⟩ w;have e:(⟨(Lib.trimPrefix s.data.toList [45]).toArray⟩:ByteArray)=t:=ext_list (by rw[ht]);subst hb;rw[<- e];exact this
theorem xU (s:ByteArray)(b:Bool)(v:Int)(w:World)(h:iM s.data.toList=none/\b=false/\v=0\/iM s.data.toList=some v/\b=true):
  ak 260 #[.string s] w fun e w'=>e=.returned (.tuple #[aa v,.bool b])/\w'=w:=by
 obtain⟨t,ht⟩:∃t:ByteArray,Lib.trimPrefix s.data.toList [45]=t.data.toList:=⟨⟨(Lib.trimPrefix s.data.toList [45]).toArray⟩,by simp⟩;obtain⟨neg,hn⟩:∃neg,Lib.hasPrefix s.data.toList [45]=neg:=⟨_,rfl⟩;obtain⟨d,hd⟩:∃d,qd t.data.toList=d:=⟨_,rfl⟩;have h':=h;unfold iM at h';rw[ht,hn,hd] at h';have HT:Hid (Lib.trimPrefix s.data.toList [45]=t.data.toList):=ht;have HN:Hid (Lib.hasPrefix s.data.toList [45]=neg):=hn;clear h ht hn;cases d with
 |false=>
  obtain⟨rfl,rfl⟩:b=false/\v=0:=by rcases h' with⟨_,a,c⟩|⟨a,_⟩;exact⟨a,c⟩;simp at a
  have HD:Hid (qd t.data.toList=false):=hd;clear h' hd;go_enter func260,ntmps260;go_wp2_with(first|(go_at_call 115;refine(kD s t neg _ HT.out HN.out).mono ?_;rintro e w' ⟨rfl,rfl⟩)|(go_at_call 261;refine(iR t false 0 _ HD.out (by simp)).mono ?_;rintro e w' ⟨rfl,rfl⟩))
  go_ret2
  exact⟨rfl,rfl⟩
 |true=>
  have hv:=um hd;obtain⟨m,hm⟩:∃m:Nat,val t.data.toList=m:=⟨_,rfl⟩;rw[hm] at h' hv;have HD:Hid (qd t.data.toList=true):=hd;have HM:Hid ((if true=true then(val t.data.toList:Int) else 0)=m):=by show _=_;rw[if_pos rfl,hm]
  clear hd hm;cases neg with
  |false=>
   obtain⟨rfl,rfl⟩:b=true/\v=m:=by
    rcases h' with⟨a,_,_⟩|⟨a,c⟩
    ·simp at a
    ·simp at a;exact⟨c,a.symm⟩
   clear h';go_enter func260,ntmps260;go_wp2_with(first|(go_at_call 115;refine(kD s t false _ HT.out HN.out).mono ?_;rintro e w' ⟨rfl,rfl⟩)|(go_at_call 261;refine(iR t true m _ HD.out HM.out).mono ?_;rintro e w' ⟨rfl,rfl⟩))
   go_ret2
   exact⟨rfl,rfl⟩
  |true=>
   by_cases hz:m=0
   ·subst hz;obtain⟨rfl,rfl⟩:b=false/\v=0:=by
     rcases h' with⟨_,a,c⟩|⟨a,_⟩
     ·exact⟨a,c⟩
     ·simp at a
    clear h';go_enter func260,ntmps260;go_wp2_with(first|(go_at_call 115;refine(kD s t true _ HT.out HN.out).mono ?_;rintro e w' ⟨rfl,rfl⟩)|(go_at_call 261;refine(iR t true 0 _ HD.out HM.out).mono ?_;rintro e w' ⟨rfl,rfl⟩))
    go_ret2
    exact⟨rfl,rfl⟩
   ·obtain⟨rfl,rfl⟩:b=true/\v= -(m:Int):=by
     rcases h' with⟨a,_,_⟩|⟨a,c⟩
     ·simp[hz] at a
     ·simp[hz] at a;exact⟨c,a.symm⟩
    have hz':((m:Int)==0)=false:=by rw[beq_eq_false_iff_ne];omega
    have hw:wrap64 (-(m:Int))= -(m:Int):=IntWalk.wrap64_in _ ⟨by omega,by omega⟩;have hm1: -10000000000< -(m:Int):=by omega
    have hm2:(0:Int)<=(m:Int):=by omega
    clear h' hz;go_enter func260,ntmps260;go_wp2_with(first|(go_at_call 115;refine(kD s t true _ HT.out HN.out).mono ?_;rintro e w' ⟨rfl,rfl⟩)|(go_at_call 261;refine(iR t true m _ HD.out HM.out).mono ?_;rintro e w' ⟨rfl,rfl⟩))
    go_ret2
    exact⟨rfl,rfl⟩
end
section
open Go.RowKit
set_option maxHeartbeats 4000000
def ck (n d:Int):R3:=if bK n d=0 then⟨n,d,0⟩ else⟨0,0,bK n d⟩
def rd (l:List UInt8):R3:=
  match iM (ahead 47 l) with
  |none=>⟨0,0,1⟩
  |some n=>match behind 47 l with
    |none=>ck n 1
    |some b=>if qd b=true/\val b≠1 then ck n (val b) else⟨0,0,1⟩
def Lc (aT aB aS aZ:Addr)(c:Nat):Value:=if c=1 then .iface 390 (.pointer (some aT)) else er aB aS aZ c
theorem uX {l:List UInt8}{v:Int}(h:iM l=some v): -10000000000<v/\v<10000000000:=by
  unfold iM at h;split at h
  · rename_i hc
    have:=um hc.1;simp only[Option.some.injEq] at h;split at h<;>omega
  · cases h
theorem IU (s:ByteArray)(w:World)(h:iM s.data.toList=none):
    ak 260 #[.string s] w fun e w'=>e=.returned (.tuple #[aa 0,.bool false])/\w'=w:=xU s false 0 w (Or.inl ⟨h,rfl,rfl⟩)
theorem nC (s:ByteArray)(v:Int)(w:World)(h:iM s.data.toList=some v):
    ak 260 #[.string s] w fun e w'=>e=.returned (.tuple #[aa v,.bool true])/\w'=w:=xU s true v w (Or.inr ⟨h,rfl⟩)
theorem IW (aB aS aZ:Addr)(n d:Int)(w:World)(n1: -9223372036854775808<=n)(n2:n<=9223372036854775807)(d1: -9223372036854775808<=d)(d2:d<=9223372036854775807)(h:E3 aB aS aZ w)(hc:bK n d=0):
    ak 183 #[aa n,aa d] w fun e w'=>e=.returned .nilIface/\∃k,w'=w.drewN k:=by
  have:=wB aB aS aZ n d w n1 n2 d1 d2 h;rw[hc] at this;exact this
theorem IY (aB aS aZ:Addr)(n d:Int)(a:Addr)(w:World)(n1: -9223372036854775808<=n)(n2:n<=9223372036854775807)(d1: -9223372036854775808<=d)(d2:d<=9223372036854775807)(h:E3 aB aS aZ w)(hc:er aB aS aZ (bK n d)=.iface 390 (.pointer (some a))):
    ak 183 #[aa n,aa d] w fun e w'=>e=.returned (.iface 390 (.pointer (some a)))/\∃k,w'=w.drewN k:=by
  rw[<- hc];exact wB aB aS aZ n d w n1 n2 d1 d2 h
theorem UG (aT aB aS aZ:Addr){c:Nat}(h:c≠1):Lc aT aB aS aZ c=er aB aS aZ c:=by unfold Lc;rw[if_neg h]
theorem Qw (aT aB aS aZ:Addr)(s:ByteArray)(w:World)(h:E3 aB aS aZ w)(hT:w.cell? (ag 1 0)=some (.iface 390 (.pointer (some aT))))(hb:behind 47 s.data.toList=none):
    ak 232 #[.string s] w fun e w'=>e=.returned (.tuple #[.agg #[aa (rd s.data.toList).n,aa (rd s.data.toList).d],Lc aT aB aS aZ (rd s.data.toList).c])/\Below w.heap.size w w':=by
  have ha:=(index_none 47 _ hb).2;have HB:Hid (behind 47 s.data.toList=none):=hb;have hlt:=ay hT;simp only at hlt;have hne:¬w.heap.size=1:=by omega
  have hne':¬1=w.heap.size:=by omega
  have hcT:∀o,(w.alloc o).cell? (ag 1 0)=some (.iface 390 (.pointer (some aT))):=fun o=>by
    rw[World.cell?_alloc_lt _ _ ⟨1,0,none⟩ hlt];exact hT
  cases hn:iM s.data.toList with
  |none=>
    have hr:rd s.data.toList=⟨0,0,1⟩:=by unfold rd;rw[ha,hn]
    rw[hr];have HN:Hid (iM s.data.toList=none):=hn;clear hn hr ha hb hT hlt;go_enter func232,ntmps232;go_wp2_with(first|(go_at_call 44;refine(Aj s _ HB.out).mono ?_;rintro e w' ⟨rfl,k,rfl⟩)|(go_at_call 260;refine(IU s _ HN.out).mono ?_;rintro e w' ⟨rfl,rfl⟩));go_region;go_wp2;refine bodyPost_ret (v:=.tuple #[.agg #[aa 0,aa 0],.iface 390 (.pointer (some aT))]) (by simp[results,results232,go_sem]) rfl ⟨rfl,?_⟩
    first|exact below_drewN ((Below.refl _ _).alloc eU _) _|exact((below_drewN ((Below.refl _ _).alloc eU _) _).setCell (by simp) _).setCell (by simp) _
  |some n=>
    have hr:rd s.data.toList=ck n 1:=by unfold rd;rw[ha,hn,hb]
    rw[hr];have HN:Hid (iM s.data.toList=some n):=hn;obtain⟨n1,n2⟩:=uX hn;clear hn hr ha hb hT hlt;by_cases hc:bK n 1=0
    · have e:ck n 1=⟨n,1,0⟩:=by unfold ck;rw[if_pos hc]
      rw[e];have HC:Hid (bK n 1=0):=hc;clear e hc;go_enter func232,ntmps232;go_wp2_with(first|(go_at_call 44;refine(Aj s _ HB.out).mono ?_;rintro e w' ⟨rfl,k,rfl⟩)|(go_at_call 260;refine(nC s n _ HN.out).mono ?_;rintro e w' ⟨rfl,rfl⟩)|(go_at_call 183;refine(IW aB aS aZ _ _ _ (by omega) (by omega) (by omega) (by omega) ?_ HC.out).mono ?_;exact(h.alloc _).drewN _;rintro e w' ⟨rfl,k2,rfl⟩));refine bodyPost_ret (v:=.tuple #[.agg #[aa n,aa 1],.nilIface]) (by simp[results,results232,go_sem]) rfl ⟨rfl,?_⟩
      first|exact below_drewN ((Below.refl _ _).alloc eU _) _|exact((below_drewN ((Below.refl _ _).alloc eU _) _).setCell (by simp) _).setCell (by simp) _
    · have hc':bK n 1=2\/bK n 1=3:=by rcases dL n 1 with e|e|e<;>simp_all
      have e:ck n 1=⟨0,0,bK n 1⟩:=by unfold ck;rw[if_neg hc]
      obtain⟨a,a3n⟩:=eT aB aS aZ hc';rw[e];simp only;rw[UG aT aB aS aZ (show bK n 1≠1 by omega),a3n];have HC:Hid (er aB aS aZ (bK n 1)=.iface 390 (.pointer (some a))):=a3n;clear e hc hc' a3n;go_enter func232,ntmps232;go_wp2_with(first|(go_at_call 44;refine(Aj s _ HB.out).mono ?_;rintro e w' ⟨rfl,k,rfl⟩)|(go_at_call 260;refine(nC s n _ HN.out).mono ?_;rintro e w' ⟨rfl,rfl⟩)|(go_at_call 183;refine(IY aB aS aZ _ _ a _ (by omega) (by omega) (by omega) (by omega) ?_ HC.out).mono ?_;exact(h.alloc _).drewN _;rintro e w' ⟨rfl,k2,rfl⟩));refine bodyPost_ret (v:=.tuple #[.agg #[aa 0,aa 0],.iface 390 (.pointer (some a))]) (by simp[results,results232,go_sem]) rfl ⟨rfl,?_⟩
      first|exact below_drewN ((Below.refl _ _).alloc eU _) _|exact((below_drewN ((Below.refl _ _).alloc eU _) _).setCell (by simp) _).setCell (by simp) _
theorem Qx (aT aB aS aZ:Addr)(s a b:ByteArray)(w:World)(h:E3 aB aS aZ w)(hT:w.cell? (ag 1 0)=some (.iface 390 (.pointer (some aT))))(hb:behind 47 s.data.toList=some b.data.toList)(ha:ahead 47 s.data.toList=a.data.toList)(hm:s.size<=9223372036854775807):
    ak 232 #[.string s] w fun e w'=>e=.returned (.tuple #[.agg #[aa (rd s.data.toList).n,aa (rd s.data.toList).d],Lc aT aB aS aZ (rd s.data.toList).c])/\Below w.heap.size w w':=by
  have HB:Hid (behind 47 s.data.toList=some b.data.toList):=hb;have HA:Hid (ahead 47 s.data.toList=a.data.toList):=ha;have hlt:=ay hT;simp only at hlt;have hne:¬w.heap.size=1:=by omega
  have hne':¬1=w.heap.size:=by omega
  have hcT:∀o,(w.alloc o).cell? (ag 1 0)=some (.iface 390 (.pointer (some aT))):=fun o=>by
    rw[World.cell?_alloc_lt _ _ ⟨1,0,none⟩ hlt];exact hT
  cases hn:iM a.data.toList with
  |none=>
    have hr:rd s.data.toList=⟨0,0,1⟩:=by unfold rd;rw[ha,hn]
    rw[hr];have HN:Hid (iM a.data.toList=none):=hn;clear hn hr ha hb hT hlt;go_enter func232,ntmps232;go_wp2_with(first|(go_at_call 44;refine(qI s a b _ HB.out HA.out hm).mono ?_;rintro e w' ⟨rfl,k,rfl⟩)|(go_at_call 260;refine(IU a _ HN.out).mono ?_;rintro e w' ⟨rfl,rfl⟩));go_region;go_wp2;refine bodyPost_ret (v:=.tuple #[.agg #[aa 0,aa 0],.iface 390 (.pointer (some aT))]) (by simp[results,results232,go_sem]) rfl ⟨rfl,?_⟩
    first|exact below_drewN ((Below.refl _ _).alloc eU _) _|exact((below_drewN ((Below.refl _ _).alloc eU _) _).setCell (by simp) _).setCell (by simp) _
  |some n=>
    have hr:rd s.data.toList=if qd b.data.toList=true/\val b.data.toList≠1 then ck n (val b.data.toList) else⟨0,0,1⟩:=by unfold rd;rw[ha,hn,hb]
    rw[hr];have HN:Hid (iM a.data.toList=some n):=hn;obtain⟨n1,n2⟩:=uX hn;clear hn hr ha hb hT hlt;cases hd:qd b.data.toList with
    |false=>
      rw[if_neg (by simp)];have HD:Hid (qd b.data.toList=false):=hd;clear hd;go_enter func232,ntmps232;go_wp2_with(first|(go_at_call 44;refine(qI s a b _ HB.out HA.out hm).mono ?_;rintro e w' ⟨rfl,k,rfl⟩)|(go_at_call 260;refine(nC a n _ HN.out).mono ?_;rintro e w' ⟨rfl,rfl⟩)|(go_at_call 261;refine(iR b false 0 _ HD.out (by simp)).mono ?_;rintro e w' ⟨rfl,rfl⟩));go_region;go_wp2;refine bodyPost_ret (v:=.tuple #[.agg #[aa 0,aa 0],.iface 390 (.pointer (some aT))]) (by simp[results,results232,go_sem]) rfl ⟨rfl,?_⟩
      first|exact below_drewN ((Below.refl _ _).alloc eU _) _|exact((below_drewN ((Below.refl _ _).alloc eU _) _).setCell (by simp) _).setCell (by simp) _
    |true=>
      have hv:=um hd;obtain⟨d,hdv⟩:∃d:Nat,val b.data.toList=d:=⟨_,rfl⟩;rw[hdv];rw[hdv] at hv;have HD:Hid (qd b.data.toList=true):=hd;have HV:Hid ((if true=true then(val b.data.toList:Int) else 0)=d):=by show _=_;rw[if_pos rfl,hdv]
      clear hd hdv;by_cases hd1:d=1
      · subst hd1
        rw[if_neg (by simp)];go_enter func232,ntmps232;go_wp2_with(first|(go_at_call 44;refine(qI s a b _ HB.out HA.out hm).mono ?_;rintro e w' ⟨rfl,k,rfl⟩)|(go_at_call 260;refine(nC a n _ HN.out).mono ?_;rintro e w' ⟨rfl,rfl⟩)|(go_at_call 261;refine(iR b true 1 _ HD.out HV.out).mono ?_;rintro e w' ⟨rfl,rfl⟩));go_region;go_wp2;refine bodyPost_ret (v:=.tuple #[.agg #[aa 0,aa 0],.iface 390 (.pointer (some aT))]) (by simp[results,results232,go_sem]) rfl ⟨rfl,?_⟩
        first|exact below_drewN ((Below.refl _ _).alloc eU _) _|exact((below_drewN ((Below.refl _ _).alloc eU _) _).setCell (by simp) _).setCell (by simp) _
      · rw[if_pos ⟨rfl,hd1⟩]
        have hd2:((d:Int)==1)=false:=by rw[beq_eq_false_iff_ne];omega
        have hd3:(0:Int)<=(d:Int):=by omega
        clear hd1;by_cases hc:bK n d=0
        · have e:ck n d=⟨n,d,0⟩:=by unfold ck;rw[if_pos hc]
          rw[e];have HC:Hid (bK n d=0):=hc;clear e hc;go_enter func232,ntmps232;go_wp2_with(first|(go_at_call 44;refine(qI s a b _ HB.out HA.out hm).mono ?_;rintro e w' ⟨rfl,k,rfl⟩)|(go_at_call 260;refine(nC a n _ HN.out).mono ?_;rintro e w' ⟨rfl,rfl⟩)|(go_at_call 261;refine(iR b true d _ HD.out HV.out).mono ?_;rintro e w' ⟨rfl,rfl⟩)|(go_at_call 183;refine(IW aB aS aZ _ _ _ (by omega) (by omega) (by omega) (by omega) ?_ HC.out).mono ?_;exact(h.alloc _).drewN _;rintro e w' ⟨rfl,k2,rfl⟩));refine bodyPost_ret (v:=.tuple #[.agg #[aa n,aa d],.nilIface]) (by simp[results,results232,go_sem]) rfl ⟨rfl,?_⟩
          first|exact below_drewN ((Below.refl _ _).alloc eU _) _|exact((below_drewN ((Below.refl _ _).alloc eU _) _).setCell (by simp) _).setCell (by simp) _
        · have hc':bK n d=2\/bK n d=3:=by rcases dL n d with e|e|e<;>simp_all
          have e:ck n d=⟨0,0,bK n d⟩:=by unfold ck;rw[if_neg hc]
          obtain⟨ae,a3n⟩:=eT aB aS aZ hc';rw[e];simp only;rw[UG aT aB aS aZ (show bK n d≠1 by omega),a3n];have HC:Hid (er aB aS aZ (bK n d)=.iface 390 (.pointer (some ae))):=a3n;clear e hc hc' a3n;go_enter func232,ntmps232;go_wp2_with(first|(go_at_call 44;refine(qI s a b _ HB.out HA.out hm).mono ?_;rintro e w' ⟨rfl,k,rfl⟩)|(go_at_call 260;refine(nC a n _ HN.out).mono ?_;rintro e w' ⟨rfl,rfl⟩)|(go_at_call 261;refine(iR b true d _ HD.out HV.out).mono ?_;rintro e w' ⟨rfl,rfl⟩)|(go_at_call 183;refine(IY aB aS aZ _ _ ae _ (by omega) (by omega) (by omega) (by omega) ?_ HC.out).mono ?_;exact(h.alloc _).drewN _;rintro e w' ⟨rfl,k2,rfl⟩));refine bodyPost_ret (v:=.tuple #[.agg #[aa 0,aa 0],.iface 390 (.pointer (some ae))]) (by simp[results,results232,go_sem]) rfl ⟨rfl,?_⟩
          first|exact below_drewN ((Below.refl _ _).alloc eU _) _|exact((below_drewN ((Below.refl _ _).alloc eU _) _).setCell (by simp) _).setCell (by simp) _
theorem rO (aT aB aS aZ:Addr)(s:ByteArray)(w:World)(h:E3 aB aS aZ w)(hT:w.cell? (ag 1 0)=some (.iface 390 (.pointer (some aT))))(hm:s.size<=9223372036854775807):
    ak 232 #[.string s] w fun e w'=>e=.returned (.tuple #[.agg #[aa (rd s.data.toList).n,aa (rd s.data.toList).d],Lc aT aB aS aZ (rd s.data.toList).c])/\Below w.heap.size w w':=by
  cases hb:behind 47 s.data.toList with
  |none=>exact Qw aT aB aS aZ s w h hT hb
  |some b=>exact Qx aT aB aS aZ s ⟨(ahead 47 s.data.toList).toArray⟩ ⟨b.toArray⟩ w h hT (by rw[hb]) rfl hm
end
section
open Go.RowKit
set_option maxHeartbeats 8000000
theorem ownsRow_below {w w':World}{base:Nat}{e:TypeId}{size n:Nat}{v:Value}{xs:List Value}(h:w.ownsRow base e size v n xs)(hb:Below w.heap.size w w'):w'.ownsRow base e size v n xs:=by
 obtain⟨h1,h2⟩:=h;refine⟨h1,?_⟩;rcases h2 with h2|⟨g,cap,cur,h3,h4,h5,h6⟩
 ·exact .inl h2
 ·exact .inr ⟨g,cap,cur,h3,h4,(hb.block g (Array.getElem?_eq_some_iff.1 h5).1).trans h5,h6⟩
theorem lW {w:World}{base:Nat}{e:TypeId}{size n:Nat}{v:Value}{xs:List Value}(h:w.ownsRow base e size v (n+1) xs):∃g cap,v=.slice (some ⟨g,0,none⟩) (n+1) cap/\base<=g/\g<w.heap.size/\n+1<=cap/\cap<=maxLen/\∀j u,xs[j]? =some u->w.cell? (ag g j)=some u:=by
 obtain⟨h1,h2⟩:=h;rcases h2 with⟨_,h2⟩|⟨g,cap,cur,h3,h4,h5,h6,h7,h8,h9⟩
 ·omega
 ·refine⟨g,cap,h3,h4,(Array.getElem?_eq_some_iff.1 h5).1,h6,h7,fun j u hj=>?_⟩;rw[<- h9] at hj;have hc:cur[j]? =some u:=by
   rw[List.getElem?_take] at hj;split at hj
   ·simpa using hj
   ·cases hj
  simp[World.cell?,h5,hc]
theorem bN.grown {w w':World}{R:Nat}{cs:Array Value}{t:TypeId}{row:Option Nat}(h:bN w R cs t)(hg:w.grownBy w' row)(hr:row≠some R):bN w' R cs t:=⟨(hg.block R h.lt (fun e=>hr e.symm)).trans h.h⟩
theorem Fu {w:World}{base:Nat}{e:TypeId}{size n:Nat}{v:Value}{xs:List Value}(h:w.ownsRow base e size v n xs):∀k,v.ownBlock=some k->base<=k:=by
 obtain⟨_,h2⟩:=h;rcases h2 with⟨rfl,_⟩|⟨g,cap,cur,rfl,h4,_⟩
 ·intro k hk;cases hk
 ·intro k hk;simp only[Value.ownBlock] at hk;cases hk;exact h4
theorem uY:(prog.info? 127).map (fun i=>(i.zero,i.size,i.bytes))=some (some (.agg #[aa 0,aa 0]),2,16):=by kernel_rfl
theorem Qy {x y:Int}:∀u∈[Value.int .i64 x,aa y],u.oneCell'=true:=fun u hu=>by
 simp at hu;rcases hu with rfl|rfl<;>rfl
theorem wU {w:World}{x y:Value}{t:TypeId}{B:Nat}(hB:B=w.heap.size):∀(j:Nat) (u:Value),[x,y][j]? =some u->(w.alloc (.cells #[x,y] t)).cell? ((⟨B,0,none⟩:Addr).add j)=some u:=fun j u hj=>by
 match j,hj with
 |0,hj=>simp at hj;subst hj;exact aM hB rfl
 |1,hj=>simp at hj;subst hj;exact aM hB rfl
 |j+2,hj=>simp at hj
theorem a2N (b o cap B:Nat)(s1 s2:ByteArray)(x1 x2:Fr)(r:Mv)(W:World)(hB:W.cell? (ag B 0)=some (.func (.func 266) #[] #[]))(h1:W.cell? (ag b o)=some (.string s1))(h2:W.cell? (ag b (o+1))=some (.string s2))
  (R1:∀V,Below W.heap.size W V->ak 232 #[.string s1] V fun e w'=>e=.returned (.tuple #[.agg #[aa x1.n,aa x1.d],.nilIface])/\Below V.heap.size V w')
  (R2:∀V,Below W.heap.size W V->ak 232 #[.string s2] V fun e w'=>e=.returned (.tuple #[.agg #[aa x2.n,aa x2.d],.nilIface])/\Below V.heap.size V w')
  (HOW:∀V g c,Below W.heap.size W V->V.cell? (ag g 0)=some (aa x1.n)->V.cell? (ag g 1)=some (aa x1.d)->V.cell? (ag g 2)=some (aa x2.n)->V.cell? (ag g 3)=some (aa x2.d)->ak 266 #[.slice (some ⟨g,0,none⟩) 2 c] V fun e w'=>e=.returned (mv r)/\Below V.heap.size V w'):
  ak 284 #[.slice (some ⟨b,o,none⟩) 2 cap,aj B] W fun e w'=>e=.returned (.tuple #[mv r,.nilIface])/\Below W.heap.size W w':=by
 have L0:=(Below.refl W.heap.size W).alloc eU (.cells zA 129);have B0:=bN.new W zA 129;have g1:=fun o=>ah o h1;obtain⟨i0,hi,hz0,hz1,hz2⟩:=info_parts uY;go_enter func284,ntmps284;go_wp2;refine wp_loop_rounds 3 ?_;rw[rounds_succ];go_wp2_with(first|(at_builtin;refine wpList_append_own_at _ rfl _ _ 322 rfl (W.heap.size+1) 127 i0 (.agg #[aa 0,aa 0]) 2 16 underlying322 hi hz0 hz1 hz2 rfl (by decide) (.slice none 0 0) 0 [] rfl O1 ⟨w1.heap.size+1,0,none⟩ 1 1 [aa x1.n,aa x1.d] rfl rfl (wU (by simp)) Qy (by unfold maxLen;omega) (by omega) (by simp;omega) ?_;intro v1 V1 hown1 hgrow1 _ UH;have L2:=((L1.alloc (by omega) _).alloc (by simp;omega) _).grown hgrow1 (by simp;omega) (fun k e=>by simp[Value.ownBlock] at e);have B2:=((B1.alloc _).alloc _).grown hgrow1 (by simp[Value.ownBlock]);have z1:=hgrow1.size;simp only[World.size_alloc] at z1;have g2:=(L2.cell (p:=⟨b,o+1,none⟩) (ay h2)).trans h2)|(go_at_call_of 232 s1;refine(R1 _ L0).mono ?_;rintro e w1 ⟨rfl,hb1⟩;have GH:=hb1.size;simp only[World.size_alloc] at GH;have L1:=(L0.trans (hb1.mono (by simp)));have B1:=B0.below hb1 eU;have O1:((w1.alloc (.cells #[aa x1.n,aa x1.d] 127)).alloc (.cells #[aa x1.n,aa x1.d] 127)).ownsRow (W.heap.size+1) 127 2 (.slice none 0 0) 0 []:=World.ownsRow_nil _ _ _ _));rw[rounds_succ];go_wp2_with(first|(at_builtin;refine wpList_append_own_at _ rfl _ _ 322 rfl (W.heap.size+1) 127 i0 (.agg #[aa 0,aa 0]) 2 16 underlying322 hi hz0 hz1 hz2 rfl (by decide) v1 1 _ rfl O2 ⟨w2.heap.size+1,0,none⟩ 1 1 [aa x2.n,aa x2.d] rfl rfl (wU (by simp)) Qy (by unfold maxLen;omega) (by omega) (by simp;omega) ?_;intro v2 V2 hown2 hgrow2 _ a6J;have lo2:=Fu O2;have L4:=((L3.alloc (by omega) _).alloc (by simp;omega) _).grown hgrow2 (by simp;omega) (fun k e=>by have:=lo2 k e;omega);have B4:=((B3.alloc _).alloc _).grown hgrow2 (fun e=>by have:=lo2 _ e;omega);obtain⟨g,c2,rfl,hg1,hg2,hg3,hg4,hg5⟩:=lW hown2;have gB:=(L4.cell (p:=⟨B,0,none⟩) (ay hB)).trans hB)|(go_at_call_of 232 s2;refine(R2 _ L2).mono ?_;rintro e w2 ⟨rfl,hb2⟩;have Tt:=hb2.size;have L3:=L2.trans (hb2.mono (by omega));have B3:=B2.below hb2 eU;have O2:=((ownsRow_below hown1 hb2).alloc (.cells #[aa x2.n,aa x2.d] 127)).alloc (.cells #[aa x2.n,aa x2.d] 127)))
 rw[rounds_succ];go_wp2_with((go_at_call 266;refine(HOW _ g c2 L4 (hg5 0 _ rfl) (hg5 1 _ rfl) (hg5 2 _ rfl) (hg5 3 _ rfl)).mono ?_;rintro e w5 ⟨rfl,hb5⟩;have sz5:=hb5.size;have B5:=B4.below hb5 eU;obtain⟨mQ,A9,mV,Aa,mW,Ab,mX,Ac,rD,Fa,rE,Fb,rF,Fe,rG,Ff,rH,Fg,rJ,Fh,ic,oF,ig,oG⟩:=B5.six));refine bodyPost_ret (v:=.tuple #[mv r,.nilIface]) (by simp[results,results284,go_sem,mQ,mV,mW,mX,rD,rE,rF,rG,rH,rJ,ic,ig]) rfl ⟨rfl,?_⟩;exact aJ (R:=W.heap.size) eU (mL r) 0 (L4.trans (hb5.mono (by omega)))
end
section
open Go.RowKit
set_option maxHeartbeats 1000000
def Mv.shift (x y:Fr):Mv:=⟨.whole 1,.whole 0,.whole 0,.whole 1,x,y⟩
def Mv.scale (x y:Fr):Mv:=⟨x,.whole 0,.whole 0,y,.whole 0,.whole 0⟩
def Mv.skew (x:Fr):Mv:=⟨.whole 1,.whole 0,x,.whole 1,.whole 0,.whole 0⟩
def Mv.turn (c s:Int):Mv:=⟨.whole c,.whole s,.whole (-s),.whole c,.whole 0,.whole 0⟩
theorem Qz (g c:Nat)(x1 x2:Fr)(W:World)(k0:W.cell? (ag g 0)=some (aa x1.n))(k1:W.cell? (ag g 1)=some (aa x1.d))(k2:W.cell? (ag g 2)=some (aa x2.n))(k3:W.cell? (ag g 3)=some (aa x2.d)):
  ak 266 #[.slice (some ⟨g,0,none⟩) 2 c] W fun e w'=>e=.returned (mv (Mv.shift x1 x2))/\Below W.heap.size W w':=by
 have HO:=oH;have lt:=ay k0;simp only at lt;have L0:=(Below.refl W.heap.size W).alloc eU (.cells zA 129);have B0:=bN.new W zA 129;go_enter func266,ntmps266;go_wp2_with(go_at_call 52;refine(HO _).mono ?_;rintro e w1 ⟨rfl,hb1⟩;have LO:=L0.trans (hb1.mono (by simp));have sz:=hb1.size;simp only[World.size_alloc] at sz;have B1:=B0.below hb1 eU;have n1:¬w1.heap.size=W.heap.size:=(by omega);have n2:¬W.heap.size=w1.heap.size:=(by omega);have n3:¬g=w1.heap.size:=(by omega);have n4:¬w1.heap.size=g:=(by omega);dsimp only[Mv.one,Fr.whole];have g0:=fun o=>ah o ((LO.cell (p:=⟨g,0,none⟩) (ay k0)).trans k0);have g1:=fun o=>ah o ((LO.cell (p:=⟨g,1,none⟩) (ay k1)).trans k1);have g2:=fun o=>ah o ((LO.cell (p:=⟨g,2,none⟩) (ay k2)).trans k2);have g3:=fun o=>ah o ((LO.cell (p:=⟨g,3,none⟩) (ay k3)).trans k3);obtain⟨mQ,A9,mV,Aa,mW,Ab,mX,Ac,rD,Fa,rE,Fb,rF,Fe,rG,Ff,rH,Fg,rJ,Fh,ic,oF,ig,oG⟩:=B1.Ut);go_region;go_wp2;refine bodyPost_ret (v:=mv (Mv.shift x1 x2)) (by simp[results,results266,go_sem,Mv.shift,Fr.whole,mQ,mV,mW,mX,rD,rE,rF,rG,rH,rJ,ic,ig]) rfl ⟨rfl,?_⟩;exact below_drewN (aJ (R:=W.heap.size) eU [aa 1,aa 1,aa 0,aa 1,aa 0,aa 1,aa 1,aa 1,aa x1.n,aa x1.d,aa x2.n,aa x2.d] 0 (LO.alloc (by omega) (.cells #[aa 1,aa 1,aa 0,aa 1,aa 0,aa 1,aa 1,aa 1,aa x1.n,aa x1.d,aa x2.n,aa x2.d] 129))) 1
theorem QA (g c:Nat)(x1 x2:Fr)(W:World)(k0:W.cell? (ag g 0)=some (aa x1.n))(k1:W.cell? (ag g 1)=some (aa x1.d))(k2:W.cell? (ag g 2)=some (aa x2.n))(k3:W.cell? (ag g 3)=some (aa x2.d)):
  ak 267 #[.slice (some ⟨g,0,none⟩) 2 c] W fun e w'=>e=.returned (mv (Mv.scale x1 x2))/\Below W.heap.size W w':=by
 have HO:=oH;have lt:=ay k0;simp only at lt;have L0:=(Below.refl W.heap.size W).alloc eU (.cells zA 129);have B0:=bN.new W zA 129;go_enter func267,ntmps267;go_wp2_with(go_at_call 52;refine(HO _).mono ?_;rintro e w1 ⟨rfl,hb1⟩;have LO:=L0.trans (hb1.mono (by simp));have sz:=hb1.size;simp only[World.size_alloc] at sz;have B1:=B0.below hb1 eU;have n1:¬w1.heap.size=W.heap.size:=(by omega);have n2:¬W.heap.size=w1.heap.size:=(by omega);have n3:¬g=w1.heap.size:=(by omega);have n4:¬w1.heap.size=g:=(by omega);dsimp only[Mv.one,Fr.whole];have g0:=fun o=>ah o ((LO.cell (p:=⟨g,0,none⟩) (ay k0)).trans k0);have g1:=fun o=>ah o ((LO.cell (p:=⟨g,1,none⟩) (ay k1)).trans k1);have g2:=fun o=>ah o ((LO.cell (p:=⟨g,2,none⟩) (ay k2)).trans k2);have g3:=fun o=>ah o ((LO.cell (p:=⟨g,3,none⟩) (ay k3)).trans k3);obtain⟨mQ,A9,mV,Aa,mW,Ab,mX,Ac,rD,Fa,rE,Fb,rF,Fe,rG,Ff,rH,Fg,rJ,Fh,ic,oF,ig,oG⟩:=B1.Ut);go_region;go_wp2;refine bodyPost_ret (v:=mv (Mv.scale x1 x2)) (by simp[results,results267,go_sem,Mv.scale,Fr.whole,mQ,mV,mW,mX,rD,rE,rF,rG,rH,rJ,ic,ig]) rfl ⟨rfl,?_⟩;exact below_drewN (aJ (R:=W.heap.size) eU [aa x1.n,aa x1.d,aa 0,aa 1,aa 0,aa 1,aa x2.n,aa x2.d,aa 0,aa 1,aa 0,aa 1] 0 (LO.alloc (by omega) (.cells #[aa x1.n,aa x1.d,aa 0,aa 1,aa 0,aa 1,aa x2.n,aa x2.d,aa 0,aa 1,aa 0,aa 1] 129))) 1
end
section
open Go.RowKit
set_option maxHeartbeats 1000000
attribute [local go_sem] fq
theorem DZ (s:ByteArray)(hs:s.size<4294967281)(W:World):
  ak 235 #[.string s,.string ⟨#[32]⟩] W fun e w'=>e=.returned (.slice (some ⟨W.heap.size,0,none⟩) (Lib.countB s ⟨#[32]⟩+1) (Lib.countB s ⟨#[32]⟩+1))/\w'=W.alloc (.cells ((Lib.splitB ⟨#[32]⟩ 0 (Lib.countB s ⟨#[32]⟩) s).map Value.string).toArray 9):=by
 have h1:1<=(⟨#[32]⟩:ByteArray).size:=by decide
 have hle:=Lib.countB_le ⟨#[32]⟩ h1 s.size s eU;have hlen:=Lib.splitB_all ⟨#[32]⟩ h1 0 _ s rfl;have c:=Any.strings_genSplit_core Tryz.Zq (by kernel_rfl) s ⟨#[32]⟩ 0 (-1) (Lib.countB s ⟨#[32]⟩+1) W hs h1 (Nat.zero_le _)
  (fun x c _=>(Any.strings_Index_one Tryz.Zn x 32 _).mono fun e w' ⟨he,hw⟩=>⟨by rw[he,<- Lib.index_one],hw⟩)
  ((Any.strings_Count_one Tryz.Zo s 32 W).mono fun e w' ⟨he,hw⟩=>⟨by rw[he];show _=Ending.returned (Value.int .i64 ((Lib.count s.data.toList [32]:Nat):Int));rw[Lib.count_one];rfl,hw⟩)
  (by decide) (by decide) (by rw[if_pos (by decide)];omega)
 rw[Nat.add_sub_cancel,hlen] at c;have e2:Lib.cellsOf (Lib.splitB ⟨#[32]⟩ 0 (Lib.countB s ⟨#[32]⟩) s) (Lib.countB s ⟨#[32]⟩+1)=((Lib.splitB ⟨#[32]⟩ 0 (Lib.countB s ⟨#[32]⟩) s).map Value.string).toArray:=by rw[<- hlen];exact Lib.cellsOf_full _
 rw[e2] at c;go_enter func235,ntmps235;go_wp2_with(go_at_call 264;refine c.mono ?_;rintro e w' ⟨rfl,hw⟩;rw[hw]);go_ret;exact⟨rfl,rfl⟩
theorem Ou {R:Nat}:∀(vs:List Value) (o:Nat) (w:World) (j:Nat),j<o->(put w R o vs).cell? (ag R j)=w.cell? (ag R j)
 |[],_,_,_,_=>rfl
 |v::vs,o,w,j,h=>(Ou vs (o+1) _ j (by omega)).trans (World.cell?_setCell_other _ _ _ _ (by intro e;have:=congrArg Addr.off e;simp only at this;omega))
theorem Fv {R:Nat}:∀(vs:List Value) (o:Nat) (w:World),(∀i,i<vs.length->(w.cell? (ag R (o+i))).isSome=true)->∀j u,vs[j]? =some u->(put w R o vs).cell? (ag R (o+j))=some u
 |[],_,_,_,j,u,h=>by simp at h
 |v::vs,o,w,hw,0,u,h=>by
  simp at h;subst h;exact(Ou vs (o+1) _ o (by omega)).trans (World.cell?_setCell_same' _ _ _ (hw 0 (by simp)))
 |v::vs,o,w,hw,j+1,u,h=>by
  have:=Fv vs (o+1) (w.setCell ⟨R,o,none⟩ v) (fun i hi=>by
   rw[World.cell?_setCell_other _ _ _ _ (by intro e;have:=congrArg Addr.off e;simp only at this;omega)];have:=hw (i+1) (by simp;omega);rwa[show o+(i+1)=o+1+i by omega] at this) j u (by simpa using h)
  rw[show o+(j+1)=o+1+j by omega];exact this
theorem qJ {B:Nat}{w u:World}(h:Below B w.drew u):Below B w u:=⟨h.os,h.tape,h.output,h.size,h.block⟩
theorem Ov {cs:List Value}{w:World}{t:TypeId}:∀j u,cs[j]? =some u->(w.alloc (.cells cs.toArray t)).cell? ⟨w.heap.size,j,none⟩=some u:=fun j u h=>aM rfl (by simpa using h)
theorem IZ {w:World}{R:Nat}{cs:Array Value}{t:TypeId}(h:bN w R cs t):∀i,i<cs.size->(w.cell? (ag R (0+i))).isSome=true:=fun i hi=>by
 rw[h.cell (0+i) cs[i] (by simp[hi])];rfl
theorem Fw {w u:World}{Q:Nat}{a b:Value}(hb:Below w.heap.size w u)(h:w.cell? (ag Q 0)=some a/\w.cell? (ag Q 1)=some b):u.cell? (ag Q 0)=some a/\u.cell? (ag Q 1)=some b:=⟨(hb.cell (p:=⟨Q,0,none⟩) (ay h.1)).trans h.1,(hb.cell (p:=⟨Q,1,none⟩) (ay h.2)).trans h.2⟩
theorem rP {w u:World}{cs:Array Value}{t:TypeId}(hb:Below (w.alloc (.cells cs t)).drew.heap.size (w.alloc (.cells cs t)).drew u):bN u w.heap.size cs t:=bN.below (w:=(w.alloc (.cells cs t)).drew) ⟨(bN.new w cs t).h⟩ hb eU
theorem UI:(prog.info? 129).map (fun i=>(i.zero,i.size,i.bytes))=some (some (.agg zA),12,96):=by kernel_rfl
theorem a1v {m:Mv}:∀u∈[Value.int .i64 m.a.n,aa m.a.d,aa m.b.n,aa m.b.d,aa m.c.n,aa m.c.d,aa m.d.n,aa m.d.d,aa m.e.n,aa m.e.d,aa m.f.n,aa m.f.d],u.oneCell'=true:=fun u hu=>by
 simp at hu;rcases hu with rfl|rfl|rfl|rfl|rfl|rfl|rfl|rfl|rfl|rfl|rfl|rfl<;>rfl
end
section
open Go.RowKit Go.Shelf
attribute [local go_sem] Oper.semAt_some
def iI (n j:Nat):List Nat:=(List.range (n-1-j)).map (fun k=>n-1-k)
theorem oJ {n j:Nat}(h:j<n):iI n j++[j]=(List.range (n-j)).map (fun k=>n-1-k):=by
 unfold iI;rw[show n-j=n-1-j+1 by omega,List.range_succ,List.map_append];simp;omega
theorem J2 (n j:Nat):(iI n j).length=n-1-j:=by simp[iI]
def aO (n:Nat):List Nat:=(List.range n).map (fun k=>n-1-k)
theorem Fx {n j:Nat}(h:j+1<n):iI n (j+1)++[j+1]=iI n j:=by
 rw[oJ h,iI,show n-(j+1)=n-1-j by omega]
theorem Fy {n:Nat}(h:0<n):iI n 0++[0]=aO n:=by rw[oJ h,aO];rfl
theorem Ak {n j:Nat}(h:j<n):iI n j++[j]<+:aO n:=by
 rw[oJ h,aO];refine List.IsPrefix.map _ ?_;refine⟨(List.range j).map (fun k=>(n-j)+k),?_⟩;rw[show List.range n=List.range ((n-j)+j) by congr 1;omega,List.range_add]
abbrev a1w (m:Mv)(j:Nat):Array Value:=#[aa j,.agg (mA m)]
theorem uZ (v:Value)(a:Option Addr)(n c:Nat)(hv:v=.slice a n c)(W:World):ak 199 #[v] W fun e w'=>e=.returned (.func (.func 240) #[] #[aj W.heap.size])/\w'=W.alloc (.cells #[v] 277):=by
 subst hv;have hmf:∀(fn:Fn) (first cap:Array Value) (w:World),(Instr.makeFunc fn first cap).run prog w=.ok (.func fn first cap) w:=fun _ _ _ _=>rfl;go_enter func199,ntmps199;go_wp2;go_ret;exact⟨rfl,rfl⟩
end
section
open Go.RowKit Go.Shelf
attribute [local go_sem] Oper.semAt_some
structure eZ (E A n₀:Nat)(W W':World):Prop where
 block:∀k,k<n₀->k≠E->k≠A->W'.heap[k]? =W.heap[k]?
theorem eZ.refl (E A n₀:Nat)(W:World):eZ E A n₀ W W:=⟨fun _ _ _ _=>rfl⟩
theorem eZ.trans {E A n₀:Nat}{X Y Z:World}(h:eZ E A n₀ X Y)(k:eZ E A n₀ Y Z):eZ E A n₀ X Z:=⟨fun i h1 h2 h3=>(k.block i h1 h2 h3).trans (h.block i h1 h2 h3)⟩
theorem eZ.of_below {E A n₀:Nat}{X Y:World}(h:Below X.heap.size X Y)(hn:n₀<=X.heap.size):eZ E A n₀ X Y:=⟨fun i h1 _ _=>h.block i (by omega)⟩
theorem eZ.aaM {E A n₀:Nat}{X Y:World}(h:eZ E A n₀ X Y)(o:Nat)(v:Value):eZ E A n₀ X (Y.setCell ⟨E,o,none⟩ v):=⟨fun i h1 h2 h3=>(Below.heap_setCell _ _ _ i h2).trans (h.block i h1 h2 h3)⟩
theorem eZ.a6K {E A n₀:Nat}{X:World}:∀(vs:List Value) (o:Nat) {Y:World},eZ E A n₀ X Y->eZ E A n₀ X (put Y A o vs)
 |[],_,_,h=>h
 |_::vs,o,_,h=>eZ.a6K vs (o+1) ⟨fun i h1 h2 h3=>(Below.heap_setCell _ _ _ i h3).trans (h.block i h1 h2 h3)⟩
theorem eZ.put {E A n₀:Nat}(W:World)(l:Nat)(o':Obj)(hl:n₀<=l):eZ E A n₀ W (W.putObj l o'):=⟨fun i h1 _ _=>World.putObj_heap_other (by omega)⟩
theorem kK {α:Type}{o:Option α}{v:α}(h:o=some v):o.isSome=true:=by rw[h];rfl
theorem kM:∀(vs:List Value) (o R:Nat) (W:World),KeepsOthers W (put W R o vs)
 |[],_,_,W=>KeepsOthers.refl W
 |_::vs,o,R,W=>(KeepsOthers.setCell W _ _).trans (kM vs (o+1) R _)
def bu (W:World)(R:Nat)(vs:List Value):Prop:=vs.length=12/\(∀i u,vs[i]? =some u->W.cell? (ag R i)=some u)/\(∀i,i<12->W.frozen? ⟨R,i,none⟩=false)
theorem bu.twelve {w:World}{R:Nat}{a0 a1 a2 a3 a4 a5 a6 a7 a8 a9 Oi Oj:Value}(h:bu w R [a0,a1,a2,a3,a4,a5,a6,a7,a8,a9,Oi,Oj]):w.cell? (ag R 0)=some a0/\w.cell? (ag R 1)=some a1/\w.cell? (ag R 2)=some a2/\w.cell? (ag R 3)=some a3/\w.cell? (ag R 4)=some a4/\w.cell? (ag R 5)=some a5/\w.cell? (ag R 6)=some a6/\w.cell? (ag R 7)=some a7/\w.cell? (ag R 8)=some a8/\w.cell? (ag R 9)=some a9/\w.cell? (ag R 10)=some Oi/\w.cell? (ag R 11)=some Oj:=⟨h.2.1 0 _ rfl,h.2.1 1 _ rfl,h.2.1 2 _ rfl,h.2.1 3 _ rfl,h.2.1 4 _ rfl,h.2.1 5 _ rfl,h.2.1 6 _ rfl,h.2.1 7 _ rfl,h.2.1 8 _ rfl,h.2.1 9 _ rfl,h.2.1 10 _ rfl,h.2.1 11 _ rfl⟩
theorem bu.six {w:World}{R:Nat}{a0 a1 a2 a3 a4 a5 a6 a7 a8 a9 Oi Oj:Value}(h:bu w R [a0,a1,a2,a3,a4,a5,a6,a7,a8,a9,Oi,Oj]):w.cell? (ag R 0)=some a0/\w.frozen? ⟨R,0,none⟩=false/\w.cell? (ag R 1)=some a1/\w.frozen? ⟨R,1,none⟩=false/\w.cell? (ag R 2)=some a2/\w.frozen? ⟨R,2,none⟩=false/\w.cell? (ag R 3)=some a3/\w.frozen? ⟨R,3,none⟩=false/\w.cell? (ag R 4)=some a4/\w.frozen? ⟨R,4,none⟩=false/\w.cell? (ag R 5)=some a5/\w.frozen? ⟨R,5,none⟩=false/\w.cell? (ag R 6)=some a6/\w.frozen? ⟨R,6,none⟩=false/\w.cell? (ag R 7)=some a7/\w.frozen? ⟨R,7,none⟩=false/\w.cell? (ag R 8)=some a8/\w.frozen? ⟨R,8,none⟩=false/\w.cell? (ag R 9)=some a9/\w.frozen? ⟨R,9,none⟩=false/\w.cell? (ag R 10)=some Oi/\w.frozen? ⟨R,10,none⟩=false/\w.cell? (ag R 11)=some Oj/\w.frozen? ⟨R,11,none⟩=false:=⟨h.2.1 0 _ rfl,h.2.2 0 (by omega),h.2.1 1 _ rfl,h.2.2 1 (by omega),h.2.1 2 _ rfl,h.2.2 2 (by omega),h.2.1 3 _ rfl,h.2.2 3 (by omega),h.2.1 4 _ rfl,h.2.2 4 (by omega),h.2.1 5 _ rfl,h.2.2 5 (by omega),h.2.1 6 _ rfl,h.2.2 6 (by omega),h.2.1 7 _ rfl,h.2.2 7 (by omega),h.2.1 8 _ rfl,h.2.2 8 (by omega),h.2.1 9 _ rfl,h.2.2 9 (by omega),h.2.1 10 _ rfl,h.2.2 10 (by omega),h.2.1 11 _ rfl,h.2.2 11 (by omega)⟩
theorem bu.uo {W:World}{R:Nat}{vs:List Value}{t:TypeId}(h:bN W R vs.toArray t)(hl:vs.length=12):bu W R vs:=
 ⟨hl,fun i u hu=>h.cell i u (by simpa using hu),fun i hi=>h.bf i vs[i] (by simp[hl▸hi])⟩
theorem jC {p:Addr}:∀(vs:List Value) (o R:Nat) (W:World),(put W R o vs).frozen? p=W.frozen? p
 |[],_,_,_=>rfl
 |_::vs,o,R,_=>(jC vs (o+1) R _).trans (World.frozen?_setCell _ _ _ _)
theorem bu.put {W:World}{R:Nat}{vs us:List Value}(h:bu W R vs)(hl:us.length=12):bu (put W R 0 us) R us:=by
 refine⟨hl,fun i u hu=>?_,fun i hi=>(jC us 0 R W).trans (h.2.2 i hi)⟩;have:=Fv (R:=R) us 0 W (fun i hi=>by rw[Nat.zero_add,h.2.1 i (vs[i]'(by rw[h.1];omega)) (by simp)];rfl) i u hu;rwa[Nat.zero_add] at this
theorem bu.jD {W:World}{R E o:Nat}{vs:List Value}{v:Value}(h:bu W R vs)(hE:R≠E):bu (W.setCell ⟨E,o,none⟩ v) R vs:=
 ⟨h.1,fun i u hu=>(World.cell?_setCell_far _ _ _ _ (fun e=>hE e.symm)).trans (h.2.1 i u hu),fun i hi=>(World.frozen?_setCell _ _ _ _).trans (h.2.2 i hi)⟩
theorem bu.E5 {W:World}{R R':Nat}{vs us:List Value}(h:bu W R vs)(hE:R≠R'):bu (Go.Proofs.YtjfiehbcamfdfaaGreatDoor.put W R' 0 us) R vs:=
 ⟨h.1,fun i u hu=>(dG (p:=⟨R,i,none⟩) hE us 0 W).trans (h.2.1 i u hu),fun i hi=>(jC us 0 R' W).trans (h.2.2 i hi)⟩
theorem bu.kept {W W':World}{R:Nat}{vs:List Value}{row:Option Nat}(h:bu W R vs)(hg:W.grownBy W' row)(hr:∀r,row=some r->∃o:Obj,W.heap[r]? =some o/\o.isCells=false):bu W' R vs:=
 ⟨h.1,fun i u hu=>cell_kept (h.2.1 i u hu) hg hr,fun i hi=>by
  have:=h.2.1 i (vs[i]'(by rw[h.1];omega)) (by simp);exact(frozen_kept this hg hr).trans (h.2.2 i hi)⟩
theorem bu.below {W W':World}{R:Nat}{vs:List Value}(h:bu W R vs)(hb:Below W.heap.size W W'):bu W' R vs:=
 ⟨h.1,fun i u hu=>(hb.cell (ay (h.2.1 i u hu))).trans (h.2.1 i u hu),fun i hi=>by
  have:=h.2.1 i (vs[i]'(by rw[h.1];omega)) (by simp);exact(hb.frozen (p:=⟨R,i,none⟩) (ay this)).trans (h.2.2 i hi)⟩
end
section
open Go.RowKit Go.Shelf
set_option maxHeartbeats 4000000
set_option maxRecDepth 100000
attribute [local go_sem] Oper.semAt_some
theorem UJ (F:Fence)(n:Nat)(hf:F.fn 240)(hro:F.round=none)(hn:1<=n)(l Bl g len cap:Nat)(ms:Nat->Mv)(hlen:0<len)(hlen':len<=1000)(Kp:World->World->Prop)(hKr:∀A,Kp A A)(hKt:∀A B C,Kp A B->Kp B C->Kp A C)(hKl:∀A B,Kp A B->B.cell? (ag Bl 0)=A.cell? (ag Bl 0))(hKg:∀A B,Kp A B->∀o,B.cell? (ag g o)=A.cell? (ag g o))(J Jx:List Nat->World->Prop)
    (hY:∀pre x W,J pre W->pre.length<len->YieldAt F (n-1) prog l #[aa (x:Nat),.agg (mA (ms x))] W fun e W'=>
      (e=.returned (.bool true)/\J (pre++[x]) W'/\Kp W W')\/(e=.returned (.bool false)/\Jx (pre++[x]) W'))
    (W:World) (hBl:W.cell? (ag Bl 0)=some (.slice (some ⟨g,0,none⟩) len cap))
    (hc:∀j,j<len->∀i u,(mL (ms j))[i]? =some u->W.cell? (ag g (j*12+i))=some u) (h0:J [] W):
    CallsIn F n prog 240 #[.func (.yield l) #[] #[],aj Bl] W fun e W'=>(∃v,e=.returned v)/\
      ((∃ys,ys=aO len/\J ys W')\/(∃pre,pre<+:aO len/\Jx pre W')):=by
  refine callsIn_of_wp func240 rfl hf ?_ hro;simp only[ntmps240,List.size_toArray,List.length_cons,List.length_nil,Nat.reduceAdd,Nat.reduceSub,Array.replicate_succ,Array.replicate_zero,List.push_toArray,List.append_toArray,List.nil_append,List.cons_append];have hl1:IntKind.i64.wrap ((len:Int)-1)=((len-1:Nat):Int):=by rw[i64_in (by omega) (by omega)];omega
  gi_wp2
  gi_loopw [3] (fun i wr=>((∃j:Nat,j<len/\i=aa j/\J (iI len j) wr)\/(i=aa (-1)/\J (aO len) wr))/\Kp W wr)
    (fun i _=>(intOf i+1).toNat)
  case atStart=>
    refine⟨.inl ⟨len-1,by omega,?_,?_⟩,hKr _⟩
    · congr 1
    · rw[show iI len (len-1)=[] by simp[iI]];exact h0
  case round=>
    obtain⟨hcase,hnx⟩:=hrel;rcases hcase with⟨j,hj,rfl,hJs⟩|⟨rfl,hJs⟩
    · have cl:=(hKl _ _ hnx).trans hBl
      have hcj:=fun i u h=>(hKg _ _ hnx (j*12+i)).trans (hc j hj i u h);obtain⟨m0,m1,m2,m3,m4,m5,m6,m7,m8,m9,m10,m11⟩:=And.intro (hcj 0 _ rfl) (And.intro (hcj 1 _ rfl) (And.intro (hcj 2 _ rfl) (And.intro (hcj 3 _ rfl) (And.intro (hcj 4 _ rfl) (And.intro (hcj 5 _ rfl) (And.intro (hcj 6 _ rfl) (And.intro (hcj 7 _ rfl) (And.intro (hcj 8 _ rfl) (And.intro (hcj 9 _ rfl) (And.intro (hcj 10 _ rfl) (hcj 11 _ rfl)))))))))));clear hcj;simp only[Nat.add_zero] at m0;obtain⟨fn,tmps,assign,body,hy,hR⟩:=hY _ j wr hJs (by rw[J2];omega)
      gi_wp2
      refine hR.mono ?_;rintro e W3 (⟨rfl,hJ3,hk3⟩|⟨rfl,hJx3⟩)
      · gi_wp2
        go_roundw
        case rel=>
          refine⟨?_,hKt _ _ _ hnx hk3⟩;cases j with
          |zero=>exact .inr ⟨by simp,by rw[<- Fy hlen];exact hJ3⟩
          |succ j=>exact .inl ⟨j,by omega,by simp,by rw[<- Fx hj];exact hJ3⟩
        case measure=>simp[intOf]
      · gi_wp2
        refine bodyPost_ret (results_none rfl _ _ _) rfl ?_;exact⟨⟨_,rfl⟩,.inr ⟨_,Ak hj,hJx3⟩⟩
    · gi_wp2
      go_end0
      exact⟨⟨_,rfl⟩,.inl ⟨_,rfl,hJs⟩⟩
end
end Go.Proofs.YtjfiehbcamfdfaaGreatDoor
