/- Parts of the proof. -/
import Derived.Shelf.Small.Utf8
import Derived.Shelf.Small.Wraps
import Derived.Shelf.Strings.BuilderK
import Derived.Shelf.Strconv.Itoa3
import Derived.Shelf.Strconv.AtoiAll
import Derived.Shelf.Strings.Shaped
import Derived.Shelf.Strings.LastIndex
import Derived.Shelf.GgClosure.StringsIndexFuncTop
import Derived.Shelf.Strings.Split
import Derived.Shelf.Strings.IndexAnyAll
import Derived.Shelf.Unicode.DecodeSlow
import Derived.Shelf.Slices.Turned
import Derived.Shelf.SlicesE.DeleteFunc
import Derived.Test.YtecneflbncjhpaaGreatDoorQp9
import Derived.Test.YtecneflbncjhpaaGreatDoorQp8
namespace Go.Proofs
open Go.Shelf
def Tryz.Ki:Go.Shelf.Ren:=⟨fun|170=>27|n=>n,fun|70=>72|3=>3|0=>0|72=>75|37=>73|5=>5|n=>n,fun|n=>n⟩
theorem Tryz.a13:Go.Proofs.Lays.n170 prog Tryz.Ki:=by
 constructor<;>intros<;>first|kernel_rfl|constructor<;>intros<;>first|kernel_rfl|constructor<;>intros<;>kernel_rfl
def Tryz.zf:Go.Shelf.Ren:=⟨fun|169=>28|n=>n,fun|70=>72|9=>9|0=>0|72=>75|37=>73|127=>150|3=>3|5=>5|n=>n,fun|n=>n⟩
theorem Tryz.a14:Go.Proofs.Lays.n169 prog Tryz.zf:=by
 constructor<;>intros<;>first|kernel_rfl|constructor<;>intros<;>first|kernel_rfl|constructor<;>intros<;>kernel_rfl
theorem Tryz.wG:Builder.Extra prog Tryz.zf:={
 sizeBuilder:=by kernel_rfl
 liesBuilder:=by kernel_rfl
 t5:=underlying5
 a5:=Tryz.isAgg5
 z5:=Tryz.sizeOf5
 v5:=Tryz.zeroValue5
 infoByte:=by kernel_rfl
 cellsByte:=by kernel_rfl
 sizeByte:=by kernel_rfl
 neB5:=by decide}
def Tryz.Kj:Go.Shelf.Ren:=⟨fun|119=>289|n=>n,fun|21=>21|4=>4|n=>n,fun|n=>n⟩
theorem Tryz.a15:Go.Proofs.Lays.n119 prog Tryz.Kj:=by
 constructor<;>intros<;>first|kernel_rfl|constructor<;>intros<;>first|kernel_rfl|constructor<;>intros<;>kernel_rfl
theorem Tryz.utf8_ValidRune (r:Int)(w:World):
  Calls prog 289 #[.int .i32 r] w fun e w'=>e=.returned (.bool (Lib.validRune r))/\w'=w:=Any.utf8_ValidRune Tryz.a15 r w
def Tryz.Kk:Go.Shelf.Ren:=⟨fun|137=>66|217=>116|266=>167|n=>n,fun|9=>9|5=>5|3=>3|n=>n,fun|n=>n⟩
theorem Tryz.a18:Go.Proofs.Lays.n137 prog Tryz.Kk:=by
 constructor<;>intros<;>first|kernel_rfl|constructor<;>intros<;>first|kernel_rfl|constructor<;>intros<;>kernel_rfl
open Go.RowKit in
theorem Tryz.strings_IndexByte (s:ByteArray)(c:Int)(w:World):
  Calls prog 66 #[.string s,.int .u8 c] w fun e w'=>e=.returned (.int .i64 (Lib.indexByte s.data.toList c.toNat.toUInt8))/\w'=w:=Any.strings_IndexByte Tryz.a18 s c w
def Tryz.Kl:Go.Shelf.Ren:=⟨fun|103=>64|210=>115|206=>118|n=>n,fun|9=>9|4=>4|24=>152|3=>3|n=>n,fun|n=>n⟩
theorem Tryz.a19:Go.Proofs.Lays.n103 prog Tryz.Kl:=by
 constructor<;>intros<;>first|kernel_rfl|constructor<;>intros<;>first|kernel_rfl|constructor<;>intros<;>kernel_rfl
open Go.RowKit in
theorem Tryz.strings_CutPrefix (s p:ByteArray)(w:World):
  Calls prog 64 #[.string s,.string p] w fun e w'=>e=.returned (.tuple #[.string ⟨(Lib.trimPrefix s.data.toList p.data.toList).toArray⟩,.bool (Lib.hasPrefix s.data.toList p.data.toList)])/\w'=w:=Any.strings_CutPrefix Tryz.a19 s p w
def Tryz.Km:Go.Shelf.Ren:=⟨fun|104=>72|211=>125|207=>172|n=>n,fun|9=>9|4=>4|24=>152|3=>3|n=>n,fun|n=>n⟩
theorem Tryz.a1a:Go.Proofs.Lays.n104 prog Tryz.Km:=by
 constructor<;>intros<;>first|kernel_rfl|constructor<;>intros<;>first|kernel_rfl|constructor<;>intros<;>kernel_rfl
open Go.RowKit in
theorem Tryz.strings_CutSuffix (s p:ByteArray)(w:World)(hs:s.size<=9223372036854775807):
  Calls prog 72 #[.string s,.string p] w fun e w'=>e=.returned (.tuple #[.string ⟨(Lib.trimSuffix s.data.toList p.data.toList).toArray⟩,.bool (Lib.hasSuffix s.data.toList p.data.toList)])/\w'=w:=Any.strings_CutSuffix Tryz.a1a s p w hs
open Go.RowKit in
theorem Tryz.Builder_Len_f (B b:Nat)(bs:List Value)(w:World)(h:Lib.IsBuilderF 75 5 B b bs w):
  Calls prog 27 #[.pointer (some ⟨b,0,none⟩)] w fun e w'=>e=.returned (.int .i64 bs.length)/\w'=w:=Any.Builder_Len_f Tryz.a13 B b bs w h
open Go.RowKit in
theorem Tryz.Builder_String_any_k (B b:Nat)(l:List UInt8)(w:World)(h:Lib.IsBuilderF 75 5 B b (Lib.byteCells l) w)(hBw:B<=w.heap.size):
  Calls prog 28 #[.pointer (some ⟨b,0,none⟩)] w fun e w'=>e=.returned (.string ⟨l.toArray⟩)/\(Lib.IsBuilderF 75 5 B b (Lib.byteCells l) w'/\Below B w w'/\Lib.OthersKept 5 (some b) w w'):=Any.Builder_String_any_k Tryz.a14 Tryz.wG B b l w h hBw
def Tryz.GZ:Go.Shelf.Ren:=⟨fun|171=>111|243=>166|246=>217|283=>256|284=>257|285=>258|286=>259|129=>285|317=>284|318=>286|319=>287|320=>288|337=>302|338=>303|n=>n,fun|3=>3|9=>9|2=>2|4=>4|171=>350|0=>0|53=>320|37=>73|5=>5|173=>353|212=>376|51=>310|20=>20|213=>377|46=>265|232=>398|233=>399|n=>n,fun|17=>13|18=>16|19=>17|n=>n⟩
theorem Tryz.X9:Go.Proofs.LaysM.n171 prog Tryz.GZ:=by
 constructor<;>intros<;>first|kernel_rfl|constructor<;>intros<;>first|kernel_rfl|constructor<;>intros<;>kernel_rfl
open Go.RowKit Go.Sort Go.Lib in
theorem Tryz.strconv_Itoa (n:Int)(h0: -9223372036854775808<=n)(h1:n<=9223372036854775807)(w:World)(htab:Lib.TabIs prog w "internal/strconv.uint64pow10" .u64 Lib.pow10Tab):
  Calls prog 111 #[.int .i64 n] w fun e w'=>e=.returned (.string ⟨(Lib.itoa n).toArray⟩)/\∃k os,w'=grow (w.drewN k) os:=Any.strconv_Itoa Tryz.X9 n h0 h1 w htab
def Tryz.H6:Go.Shelf.Ren:=⟨fun|172=>235|244=>270|245=>271|247=>292|279=>293|280=>294|281=>295|282=>296|287=>304|316=>305|171=>111|205=>306|321=>310|322=>311|243=>166|246=>217|283=>256|284=>257|285=>258|286=>259|129=>285|317=>284|318=>286|319=>287|320=>288|337=>302|338=>303|n=>n,fun|9=>9|3=>3|75=>26|76=>147|4=>4|5=>5|167=>382|37=>73|0=>0|85=>383|2=>2|168=>385|53=>320|175=>391|46=>265|210=>394|127=>150|145=>403|143=>401|21=>21|171=>350|173=>353|212=>376|51=>310|20=>20|213=>377|232=>398|233=>399|80=>49|n=>n,fun|15=>14|16=>15|17=>13|18=>16|19=>17|n=>n⟩
theorem Tryz.BF:Go.Proofs.LaysC.n172 prog Tryz.H6:=by
 constructor<;>intros<;>first|kernel_rfl|constructor<;>intros<;>first|kernel_rfl|constructor<;>intros<;>kernel_rfl
open Go.RowKit in
theorem Tryz.strconv_Atoi_ok (s:ByteArray)(hmax:s.size<=9223372036854775806)(v:Int)(h:Lib.atoiAll s.data.toList=.ok v)(w:World):
  Calls prog 235 #[.string s] w fun e w'=>e=.returned (.tuple #[.int .i64 v,.nilIface])/\(w'=w\/∃t,w'=Lib.bytesWorld w 5 t):=Any.strconv_Atoi_ok Tryz.BF s hmax v h w
open Go.RowKit in
theorem Tryz.strconv_Atoi_syntax (s:ByteArray)(hlim:s.size<=281474976710656)(h:Lib.atoiAll s.data.toList=.«syntax»)(ev:Value)(w:World)(hv:w.cell? ⟨14,0,none⟩=some ev)(hev:ev=.nilIface\/∃te pe,ev=.iface te pe):
  Calls prog 235 #[.string s] w fun e w'=>∃N,e=.returned (.tuple #[.int .i64 (0),.iface 385 (.pointer (some ⟨N,0,none⟩))])/\w.heap.size<=N/\w'.heap[N]? =some (.cells #[.string ⟨#[65,116,111,105]⟩,.string s,ev] 394 (0,0))/\Below w.heap.size w w':=Any.strconv_Atoi_syntax Tryz.BF s hlim h ev w hv hev
open Go.RowKit in
theorem Tryz.strconv_Atoi_range (s:ByteArray)(hlim:s.size<=281474976710656)(h:Lib.atoiAll s.data.toList=.range)(ev:Value)(w:World)(hv:w.cell? ⟨15,0,none⟩=some ev)(hev:ev=.nilIface\/∃te pe,ev=.iface te pe):
  Calls prog 235 #[.string s] w fun e w'=>∃N,e=.returned (.tuple #[.int .i64 (Lib.atoiSat s.data.toList),.iface 385 (.pointer (some ⟨N,0,none⟩))])/\w.heap.size<=N/\w'.heap[N]? =some (.cells #[.string ⟨#[65,116,111,105]⟩,.string s,ev] 394 (0,0))/\Below w.heap.size w w':=Any.strconv_Atoi_range Tryz.BF s hlim h ev w hv hev
def Tryz.Kn:Go.Shelf.Ren:=⟨fun|219=>124|217=>116|225=>169|224=>170|267=>171|266=>167|314=>218|n=>n,fun|9=>9|3=>3|4=>4|5=>5|46=>265|146=>311|51=>310|n=>n,fun|1=>12|n=>n⟩
theorem Tryz.a1b:Go.Proofs.Lays.n219 prog Tryz.Kn:=by
 constructor<;>intros<;>first|kernel_rfl|constructor<;>intros<;>first|kernel_rfl|constructor<;>intros<;>kernel_rfl
open Go.RowKit Go.Lib in
theorem Tryz.stringslite_Index_one (s:ByteArray)(c:UInt8)(w:World):
  Calls prog 124 #[.string s,.string ⟨#[c]⟩] w fun e w'=>e=.returned (.int .i64 (Lib.indexByte s.data.toList c))/\w'=w:=Any.stringslite_Index_one Tryz.a1b s c w
def Tryz.Ko:Go.Shelf.Ren:=⟨fun|143=>299|219=>124|217=>116|225=>169|224=>170|267=>171|266=>167|314=>218|n=>n,fun|9=>9|3=>3|4=>4|5=>5|46=>265|146=>311|51=>310|n=>n,fun|1=>12|n=>n⟩
theorem Tryz.a1c:Go.Proofs.Lays.n143 prog Tryz.Ko:=by
 constructor<;>intros<;>first|kernel_rfl|constructor<;>intros<;>first|kernel_rfl|constructor<;>intros<;>kernel_rfl
def Tryz.Kq:Go.Shelf.Ren:=⟨fun|145=>43|220=>71|219=>124|217=>116|225=>169|224=>170|267=>171|266=>167|314=>218|n=>n,fun|9=>9|4=>4|59=>104|3=>3|5=>5|46=>265|146=>311|51=>310|n=>n,fun|1=>12|n=>n⟩
theorem Tryz.a1d:Go.Proofs.Lays.n145 prog Tryz.Kq:=by
 constructor<;>intros<;>first|kernel_rfl|constructor<;>intros<;>first|kernel_rfl|constructor<;>intros<;>kernel_rfl
open Go.RowKit Go.Lib in
theorem Tryz.strings_Cut (s sep:ByteArray)(m:Int)(w:World)(hs:s.size<4294967281)(hm:w.cell? ⟨12,0,none⟩=some (.int .i64 m)):
  Calls prog 43 #[.string s,.string sep] w fun e w'=>e=.returned (.tuple #[.string ⟨(Lib.cut s.data.toList sep.data.toList).1.toArray⟩,.string ⟨(Lib.cut s.data.toList sep.data.toList).2.1.toArray⟩,.bool (Lib.cut s.data.toList sep.data.toList).2.2])/\∃n,w'=w.drewN n:=Any.strings_Cut Tryz.a1d s sep m w hs hm
def Tryz.Kr:Go.Shelf.Ren:=⟨fun|138=>298|195=>307|218=>309|143=>299|219=>124|217=>116|225=>169|224=>170|267=>171|266=>167|314=>218|n=>n,fun|9=>9|3=>3|4=>4|5=>5|0=>0|46=>265|146=>311|51=>310|n=>n,fun|1=>12|n=>n⟩
theorem Tryz.a1e:Go.Proofs.Lays.n138 prog Tryz.Kr:=by
 constructor<;>intros<;>first|kernel_rfl|constructor<;>intros<;>first|kernel_rfl|constructor<;>intros<;>kernel_rfl
def Tryz.H7:Go.Shelf.Ren:=⟨fun|145=>43|220=>71|219=>124|217=>116|225=>169|224=>170|267=>171|266=>167|314=>218|n=>n,fun|9=>9|4=>4|59=>104|3=>3|5=>5|46=>265|146=>311|51=>310|n=>n,fun|1=>12|n=>n⟩
theorem Tryz.Xa:Go.Proofs.LaysM.n145 prog Tryz.H7:=by
 constructor<;>first|exact fun w h=>Go.Proofs.cell_of_shapedOpen_int (zero:=#[.int .i64 0]) (t:=3) h (of_decide_eq_true (by kernel_rfl)) (by kernel_rfl) rfl (by kernel_rfl) (by kernel_rfl) underlying3|(intros;first|kernel_rfl|constructor<;>intros<;>first|kernel_rfl|constructor<;>intros<;>kernel_rfl)
def Tryz.Kt:Go.Shelf.Ren:=⟨fun|149=>220|222=>260|n=>n,fun|9=>9|5=>5|3=>3|4=>4|n=>n,fun|n=>n⟩
theorem Tryz.a1f:Go.Proofs.Lays.n149 prog Tryz.Kt:=by
 constructor<;>intros<;>first|kernel_rfl|constructor<;>intros<;>first|kernel_rfl|constructor<;>intros<;>kernel_rfl
open Go.RowKit Go.Lib in
theorem Tryz.strings_LastIndexByte (s:ByteArray)(c:Int)(hs:s.size<4611686018427387904)(w:World):
  Calls prog 220 #[.string s,.int .u8 c] w fun e w'=>e=.returned (.int .i64 (Lib.lastIndexByte s c))/\w'=w:=Any.strings_LastIndexByte Tryz.a1f s c hs w
def Tryz.H8:Go.Shelf.Ren:=⟨fun|17=>126|15=>173|20=>219|n=>n,fun|9=>9|23=>211|4=>4|3=>3|0=>0|21=>21|n=>n,fun|n=>n⟩
theorem Tryz.Xb:Go.Proofs.LaysGw.n17 prog Tryz.H8:=by
 constructor<;>intros<;>first|kernel_rfl|constructor<;>intros<;>first|kernel_rfl|constructor<;>intros<;>kernel_rfl
open Go.RowKit Go.Lib in
theorem Tryz.strings_ContainsFunc (g:Nat)(lb:Array Value)(eg:∀args w,(callFunc g args).run prog w=.ok (.enter g args) w)(p:Nat->Bool)(s:ByteArray)(w:World)(hp:PredAt prog g lb encR p w):
  Calls prog 126 #[.string s,.func (.func g) #[] lb] w fun e w'=>e=.returned (.bool (decide (0<=Lib.idxFunc p true s)))/\Below w.heap.size w w':=Any.strings_ContainsFunc Tryz.Xb g lb eg p s w hp
def Tryz.O5:Go.Shelf.Ren:=⟨fun|99=>68|206=>118|n=>n,fun|9=>9|4=>4|3=>3|n=>n,fun|n=>n⟩
theorem Tryz.a5g:Go.Proofs.Lays.n99 prog Tryz.O5:=by
 constructor<;>intros<;>first|kernel_rfl|constructor<;>intros<;>first|kernel_rfl|constructor<;>intros<;>kernel_rfl
open Go.RowKit Go.Lib in
theorem Tryz.strings_HasPrefix (s p:ByteArray)(w:World):
  Calls prog 68 #[.string s,.string p] w fun e w'=>e=.returned (.bool (Lib.hasPrefix s.data.toList p.data.toList))/\w'=w:=Any.strings_HasPrefix Tryz.a5g s p w
def Tryz.Ku:Go.Shelf.Ren:=⟨fun|221=>276|268=>297|138=>298|143=>299|195=>307|197=>308|218=>309|219=>124|260=>312|217=>116|225=>169|224=>170|267=>171|266=>167|314=>218|n=>n,fun|9=>9|3=>3|31=>45|4=>4|0=>0|105=>396|21=>21|5=>5|46=>265|119=>404|139=>407|138=>406|146=>311|51=>310|n=>n,fun|1=>12|3=>18|4=>19|n=>n⟩
theorem Tryz.a1g:Go.Proofs.Lays.n221 prog Tryz.Ku:=by
 constructor<;>intros<;>first|kernel_rfl|constructor<;>intros<;>first|kernel_rfl|constructor<;>intros<;>kernel_rfl
def Tryz.Kv:Go.Shelf.Ren:=⟨fun|152=>261|137=>66|119=>289|224=>170|225=>169|217=>116|266=>167|n=>n,fun|9=>9|21=>21|3=>3|4=>4|5=>5|0=>0|46=>265|n=>n,fun|n=>n⟩
theorem Tryz.a1h:Go.Proofs.Lays.n152 prog Tryz.Kv:=by
 constructor<;>intros<;>first|kernel_rfl|constructor<;>intros<;>first|kernel_rfl|constructor<;>intros<;>kernel_rfl
open Go.RowKit Go.Lib in
theorem Tryz.strings_IndexRune_ascii (s:ByteArray)(r:Int)(w:World)(h0:0<=r)(h1:r<128):
  Calls prog 261 #[.string s,.int .i32 r] w fun e w'=>e=.returned (.int .i64 (Lib.indexByte s.data.toList r.toNat.toUInt8))/\w'=w:=Any.strings_IndexRune_ascii Tryz.a1h s r w h0 h1
def Tryz.Ky:Go.Shelf.Ren:=⟨fun|226=>262|n=>n,fun|3=>3|4=>4|n=>n,fun|n=>n⟩
theorem Tryz.a1i:Go.Proofs.Lays.n226 prog Tryz.Ky:=by
 constructor<;>intros<;>first|kernel_rfl|constructor<;>intros<;>first|kernel_rfl|constructor<;>intros<;>kernel_rfl
open Go.RowKit Go.Lib in
theorem Tryz.strings_shouldUseASCIISet (n:Int)(w:World):
  Calls prog 262 #[.int .i64 n] w fun e w'=>e=.returned (.bool (decide (8<n)))/\w'=w:=Any.strings_shouldUseASCIISet Tryz.a1i n w
def Tryz.Kz:Go.Shelf.Ren:=⟨fun|153=>222|152=>261|226=>262|227=>263|228=>264|137=>66|119=>289|224=>170|225=>169|217=>116|266=>167|n=>n,fun|9=>9|3=>3|4=>4|5=>5|21=>21|117=>358|116=>357|0=>0|46=>265|124=>379|n=>n,fun|n=>n⟩
theorem Tryz.a1j:Go.Proofs.Lays.n153 prog Tryz.Kz:=by
 constructor<;>intros<;>first|kernel_rfl|constructor<;>intros<;>first|kernel_rfl|constructor<;>intros<;>kernel_rfl
open Go.RowKit Go.Lib in
theorem Tryz.strings_IndexAny_long (hv116:∀w,(zeroValue 357).run prog w=.ok (.agg (Array.replicate 256 (.bool false))) w)(s chars:ByteArray)(w:World)(h2:2<=chars.size)(h8:8<s.size)(hs:s.size<4294967281)(hcs:chars.size<4294967281)(hascii:∀(j:Nat) b,chars.data.toList[j]? =some b->b.toNat<128):
  Calls prog 222 #[.string s,.string chars] w fun e w'=>e=.returned (.int .i64 (Lib.indexAny s.data.toList chars.data.toList))/\w'=((w.alloc (.cells (Lib.setCells chars.data.toList) 357)).alloc (.cells (Lib.setCells chars.data.toList) 357)):=Any.strings_IndexAny_long Tryz.a1j hv116 (by kernel_rfl) s chars w h2 h8 hs hcs hascii
def Tryz.KF:Go.Shelf.Ren:=⟨fun|110=>268|109=>290|n=>n,fun|31=>45|9=>9|4=>4|3=>3|0=>0|n=>n,fun|n=>n⟩
theorem Tryz.a1k:Go.Proofs.Lays.n110 prog Tryz.KF:=by
 constructor<;>intros<;>first|kernel_rfl|constructor<;>intros<;>first|kernel_rfl|constructor<;>intros<;>kernel_rfl
open Go.Lib in
theorem Tryz.slices_Contains_string (b off n c:Nat)(zs:List ByteArray)(x:ByteArray)(w:World)(hz:n<=zs.length)(hbig:n<=9223372036854775807)(hc:∀j,j<zs.length->w.cell? ⟨b,off+j,none⟩=some (.string (zs.getD j ByteArray.empty))):
  Calls prog 268 #[.slice (some ⟨b,off,none⟩) n c,.string x] w fun e w'=>e=.returned (.bool (Lib.containsS (zs.take n) x))/\w'=w:=Any.slices_Contains_string Tryz.a1k b off n c zs x w hz hbig hc
end Go.Proofs
namespace Go.Proofs.YtecneflbncjhpaaGreatDoor
open Go.Proofs.Tryz
set_option maxHeartbeats 8000000
section
open Go.RowKit
def ahead (c:UInt8):List UInt8->List UInt8
 |[]=>[]
 |b::l=>if b=c then[] else b::ahead c l
def behind (c:UInt8):List UInt8->Option (List UInt8)
 |[]=>none
 |b::l=>if b=c then some l else behind c l
theorem index_none (c:UInt8):∀l:List UInt8,behind c l=none->Lib.indexByte l c= -1/\ahead c l=l
 |[],_=>⟨rfl,rfl⟩
 |b::l,h=>by
  unfold behind at h;split at h
  ·cases h
  ·rename_i hb;obtain⟨h1,h2⟩:=index_none c l h;unfold Lib.indexByte ahead;simp[hb,h1,h2]
theorem pI (c:UInt8):∀(l r:List UInt8),behind c l=some r->∃i:Nat,Lib.indexByte l c=i/\i<l.length/\l.take i=ahead c l/\l.drop (i+1)=r
 |[],_,h=>by cases h
 |b::l,r,h=>by
  unfold behind at h;split at h
  ·rename_i hb;subst hb;cases h;exact⟨0,by unfold Lib.indexByte;simp,by simp,by unfold ahead;simp,rfl⟩
  ·rename_i hb;obtain⟨i,h1,h2,h3,h4⟩:=pI c l r h;refine⟨i+1,?_,by simpa using h2,?_,by simpa using h4⟩
   ·unfold Lib.indexByte;have:((i:Int)== -1)=false:=by rw[beq_eq_false_iff_ne];omega
    simp[hb,h1,this]
   ·unfold ahead;simp[hb,h3]
theorem ext_list {s t:aC}(h:s.data.toList=t.data.toList):s=t:=by
 apply ByteArray.ext;exact Array.toList_inj.1 h
theorem Xc (s:aC)(w:ag)(h:behind 47 s.data.toList=none):
  au 71 #[.string s,.string ⟨#[47]⟩] w fun e w'=>e=.returned (.tuple #[.string s,.string ⟨#[]⟩,.bool false])/\∃k,w'=w.drewN k:=by
 obtain⟨hi,_⟩:=index_none 47 _ h;have HI:=Tryz.stringslite_Index_one s 47;rw[hi] at HI;have HH:=aj HI;clear HI hi h;go_enter func71,ntmps71;go_wp2_with(go_at_call 124;refine(HH.out _).mono ?_;rintro e w' ⟨rfl,rfl⟩);go_ret3;exact⟨rfl,0,rfl⟩
theorem Xe (s a b:aC)(w:ag)(hb:behind 47 s.data.toList=some b.data.toList)(ha:ahead 47 s.data.toList=a.data.toList)(hm:s.size<=9223372036854775807):
  au 71 #[.string s,.string ⟨#[47]⟩] w fun e w'=>e=.returned (.tuple #[.string a,.string b,.bool true])/\∃k,w'=w.drewN k:=by
 obtain⟨i,hi,hl,h3,h4⟩:=pI 47 _ _ hb;rw[kg] at hl;have HI:=Tryz.stringslite_Index_one s 47;rw[hi] at HI;have HH:=aj HI;have e1:s.extract 0 i=a:=ext_list (by rw[Lib.extract_data];simpa[ha] using h3);have e2:s.extract (i+1) s.size=b:=ext_list (by rw[Lib.extract_to_end];exact h4);clear HI hi h3 h4 ha hb;have h0:(0:Int)<=(i:Int):=by omega
 go_enter func71,ntmps71;go_wp2_with(go_at_call 124;refine(HH.out _).mono ?_;rintro e w' ⟨rfl,rfl⟩)
 go_quiet (fail)
 go_wp2;go_ret3;exact⟨rfl,_,rfl⟩
theorem BG (s:aC)(w:ag)(h:behind 47 s.data.toList=none):
  au 43 #[.string s,.string ⟨#[47]⟩] w fun e w'=>e=.returned (.tuple #[.string s,.string ⟨#[]⟩,.bool false])/\∃k,w'=w.drewN k:=by
 have HB:=aj h;clear h;go_enter func43,ntmps43;go_wp2_with(go_at_call 71;refine(Xc s _ HB.out).mono ?_;rintro e w' ⟨rfl,k,rfl⟩);go_ret3;exact⟨rfl,_,rfl⟩
theorem r9 (s a b:aC)(w:ag)(hb:behind 47 s.data.toList=some b.data.toList)(ha:ahead 47 s.data.toList=a.data.toList)(hm:s.size<=9223372036854775807):
  au 43 #[.string s,.string ⟨#[47]⟩] w fun e w'=>e=.returned (.tuple #[.string a,.string b,.bool true])/\∃k,w'=w.drewN k:=by
 have HB:=aj hb;have HA:=aj ha;clear ha hb;go_enter func43,ntmps43;go_wp2_with(go_at_call 71;refine(Xe s a b _ HB.out HA.out hm).mono ?_;rintro e w' ⟨rfl,k,rfl⟩);go_ret3;exact⟨rfl,_,rfl⟩
def mh (l:List UInt8):Option Int:=
 if wF (Lib.trimPrefix l [45])=true/\¬(Lib.hasPrefix l [45]=true/\val (Lib.trimPrefix l [45])=0) then some (if Lib.hasPrefix l [45]=true then -(val (Lib.trimPrefix l [45]):Int) else val (Lib.trimPrefix l [45])) else none
theorem uZ {l:List UInt8}(h:wF l=true):(val l:Int)<10000000000:=by
 unfold wF at h;rw[Bool.and_eq_true] at h;have:=a5e h.2 (BA.1 h.1).2.1;omega
theorem jB (s:aC)(b:Bool)(v:Int)(w:ag)(hb:wF s.data.toList=b)(hv:(if b=true then(val s.data.toList:Int) else 0)=v):
  au 273 #[.string s] w fun e w'=>e=.returned (.tuple #[aa v,.bool b])/\w'=w:=by
 subst hb;subst hv;exact BD s w
theorem lu (s t:aC)(b:Bool)(w:ag)(ht:Lib.trimPrefix s.data.toList [45]=t.data.toList)(hb:Lib.hasPrefix s.data.toList [45]=b):
  au 64 #[.string s,.string ⟨#[45]⟩] w fun e w'=>e=.returned (.tuple #[.string t,.bool b])/\w'=w:=by
 have:=Tryz.strings_CutPrefix s ⟨#[45]⟩ w;have e:(⟨(Lib.trimPrefix s.data.toList [45]).toArray⟩:aC)=t:=ext_list (by rw[ht]);subst hb;rw[<- e];exact this
theorem zg (s:aC)(b:Bool)(v:Int)(w:ag)(h:mh s.data.toList=none/\b=false/\v=0\/mh s.data.toList=some v/\b=true):
  au 272 #[.string s] w fun e w'=>e=.returned (.tuple #[aa v,.bool b])/\w'=w:=by
 obtain⟨t,ht⟩:∃t:aC,Lib.trimPrefix s.data.toList [45]=t.data.toList:=⟨⟨(Lib.trimPrefix s.data.toList [45]).toArray⟩,by simp⟩;obtain⟨neg,hn⟩:∃neg,Lib.hasPrefix s.data.toList [45]=neg:=⟨_,rfl⟩;obtain⟨d,hd⟩:∃d,wF t.data.toList=d:=⟨_,rfl⟩;have h':=h;unfold mh at h';rw[ht,hn,hd] at h';have HT:=aj ht;have HN:=aj hn;clear h ht hn;cases d with
 |false=>
  obtain⟨rfl,rfl⟩:b=false/\v=0:=by rcases h' with⟨_,a,c⟩|⟨a,_⟩;exact⟨a,c⟩;simp at a
  have HD:=aj hd;clear h' hd;go_enter func272,ntmps272;go_wp2_with(first|(go_at_call 64;refine(lu s t neg _ HT.out HN.out).mono ?_;rintro e w' ⟨rfl,rfl⟩)|(go_at_call 273;refine(jB t false 0 _ HD.out (by simp)).mono ?_;rintro e w' ⟨rfl,rfl⟩))
  go_ret2
  exact⟨rfl,rfl⟩
 |true=>
  have hv:=uZ hd;obtain⟨m,hm⟩:∃m:Nat,val t.data.toList=m:=⟨_,rfl⟩;rw[hm] at h' hv;have HD:=aj hd;have HM:Hid ((if true=true then(val t.data.toList:Int) else 0)=m):=by show _=_;rw[if_pos rfl,hm]
  clear hd hm;cases neg with
  |false=>
   obtain⟨rfl,rfl⟩:b=true/\v=m:=by
    rcases h' with⟨a,_,_⟩|⟨a,c⟩
    ·simp at a
    ·simp at a;exact⟨c,a.symm⟩
   clear h';go_enter func272,ntmps272;go_wp2_with(first|(go_at_call 64;refine(lu s t false _ HT.out HN.out).mono ?_;rintro e w' ⟨rfl,rfl⟩)|(go_at_call 273;refine(jB t true m _ HD.out HM.out).mono ?_;rintro e w' ⟨rfl,rfl⟩))
   go_ret2
   exact⟨rfl,rfl⟩
  |true=>
   by_cases hz:m=0
   ·subst hz;obtain⟨rfl,rfl⟩:b=false/\v=0:=by
     rcases h' with⟨_,a,c⟩|⟨a,_⟩
     ·exact⟨a,c⟩
     ·simp at a
    clear h';go_enter func272,ntmps272;go_wp2_with(first|(go_at_call 64;refine(lu s t true _ HT.out HN.out).mono ?_;rintro e w' ⟨rfl,rfl⟩)|(go_at_call 273;refine(jB t true 0 _ HD.out HM.out).mono ?_;rintro e w' ⟨rfl,rfl⟩))
    go_ret2
    exact⟨rfl,rfl⟩
   ·obtain⟨rfl,rfl⟩:b=true/\v= -(m:Int):=by
     rcases h' with⟨a,_,_⟩|⟨a,c⟩
     ·simp[hz] at a
     ·simp[hz] at a;exact⟨c,a.symm⟩
    have hz':((m:Int)==0)=false:=by rw[beq_eq_false_iff_ne];omega
    have hw:wrap64 (-(m:Int))= -(m:Int):=IntWalk.wrap64_in _ ⟨by omega,by omega⟩;clear h' hz;go_enter func272,ntmps272;go_wp2_with(first|(go_at_call 64;refine(lu s t true _ HT.out HN.out).mono ?_;rintro e w' ⟨rfl,rfl⟩)|(go_at_call 273;refine(jB t true m _ HD.out HM.out).mono ?_;rintro e w' ⟨rfl,rfl⟩))
    go_ret2
    exact⟨rfl,rfl⟩
def ck (n d:Int):R3:=if dH n d=0 then⟨n,d,0⟩ else⟨0,0,dH n d⟩
def rd (l:List UInt8):R3:=
 match mh (ahead 47 l) with
 |none=>⟨0,0,1⟩
 |some n=>match behind 47 l with
  |none=>ck n 1
  |some b=>if wF b=true/\val b≠1 then ck n (val b) else⟨0,0,1⟩
def Nf (aT aB aS aZ:Addr)(c:Nat):ah:=if c=1 then .iface 401 (.pointer (some aT)) else er aB aS aZ c
theorem wH {l:List UInt8}{v:Int}(h:mh l=some v): -10000000000<v/\v<10000000000:=by
 unfold mh at h;split at h
 ·rename_i hc;have:=uZ hc.1;simp only[Option.some.injEq] at h;split at h<;>omega
 ·cases h
theorem KG (s:aC)(w:ag)(h:mh s.data.toList=none):
  au 272 #[.string s] w fun e w'=>e=.returned (.tuple #[aa 0,.bool false])/\w'=w:=zg s false 0 w (Or.inl ⟨h,rfl,rfl⟩)
theorem nT (s:aC)(v:Int)(w:ag)(h:mh s.data.toList=some v):
  au 272 #[.string s] w fun e w'=>e=.returned (.tuple #[aa v,.bool true])/\w'=w:=zg s true v w (Or.inr ⟨h,rfl⟩)
theorem KH (aB aS aZ:Addr)(n d:Int)(w:ag)(n1: -9223372036854775808<=n)(n2:n<=9223372036854775807)(d1: -9223372036854775808<=d)(d2:d<=9223372036854775807)(h:E3 aB aS aZ w)(hc:dH n d=0):
  au 182 #[aa n,aa d] w fun e w'=>e=.returned .nilIface/\∃k,w'=w.drewN k:=by
 have:=xy aB aS aZ n d w n1 n2 d1 d2 h;rw[hc] at this;exact this
theorem KI (aB aS aZ:Addr)(n d:Int)(a:Addr)(w:ag)(n1: -9223372036854775808<=n)(n2:n<=9223372036854775807)(d1: -9223372036854775808<=d)(d2:d<=9223372036854775807)(h:E3 aB aS aZ w)(hc:er aB aS aZ (dH n d)=.iface 401 (.pointer (some a))):
  au 182 #[aa n,aa d] w fun e w'=>e=.returned (.iface 401 (.pointer (some a)))/\∃k,w'=w.drewN k:=by
 rw[<- hc];exact xy aB aS aZ n d w n1 n2 d1 d2 h
theorem Xf (aT aB aS aZ:Addr){c:Nat}(h:c≠1):Nf aT aB aS aZ c=er aB aS aZ c:=by unfold Nf;rw[if_neg h]
theorem TA (aT aB aS aZ:Addr)(s:aC)(w:ag)(h:E3 aB aS aZ w)(hT:w.cell? (ak 1 0)=some (.iface 401 (.pointer (some aT))))(hb:behind 47 s.data.toList=none):
  au 236 #[.string s] w fun e w'=>e=.returned (.tuple #[.agg #[aa (rd s.data.toList).n,aa (rd s.data.toList).d],Nf aT aB aS aZ (rd s.data.toList).c])/\Below w.heap.size w w':=by
 have ha:=(index_none 47 _ hb).2;have HB:=aj hb;have hlt:=aF hT;simp only at hlt;have hne':¬1=w.heap.size:=by omega
 have hcT:∀o,(w.alloc o).cell? (ak 1 0)=some (.iface 401 (.pointer (some aT))):=fun o=>by
  rw[World.cell?_alloc_lt _ _ ⟨1,0,none⟩ hlt];exact hT
 cases hn:mh s.data.toList with
 |none=>
  have hr:rd s.data.toList=⟨0,0,1⟩:=by unfold rd;rw[ha,hn]
  rw[hr];have HN:=aj hn;clear hn hr ha hb hT hlt;go_enter func236,ntmps236;go_wp2_with(first|(go_at_call 43;refine(BG s _ HB.out).mono ?_;rintro e w' ⟨rfl,k,rfl⟩)|(go_at_call 272;refine(KG s _ HN.out).mono ?_;rintro e w' ⟨rfl,rfl⟩));go_region;go_wp2;refine bodyPost_ret (v:=.tuple #[.agg #[aa 0,aa 0],.iface 401 (.pointer (some aT))]) (by simp[results,results236,go_sem]) rfl ⟨rfl,?_⟩
  first|exact below_drewN ((aG _ _).alloc ai _) _|exact((below_drewN ((aG _ _).alloc ai _) _).setCell (by simp) _).setCell (by simp) _
 |some n=>
  have hr:rd s.data.toList=ck n 1:=by unfold rd;rw[ha,hn,hb]
  rw[hr];have HN:=aj hn;obtain⟨n1,n2⟩:=wH hn;clear hn hr ha hb hT hlt;by_cases hc:dH n 1=0
  ·have e:ck n 1=⟨n,1,0⟩:=by unfold ck;rw[if_pos hc]
   rw[e];have HC:=aj hc;clear e hc;go_enter func236,ntmps236;go_wp2_with(first|(go_at_call 43;refine(BG s _ HB.out).mono ?_;rintro e w' ⟨rfl,k,rfl⟩)|(go_at_call 272;refine(nT s n _ HN.out).mono ?_;rintro e w' ⟨rfl,rfl⟩)|(go_at_call 182;refine(KH aB aS aZ _ _ _ (by omega) (by omega) (by omega) (by omega) ?_ HC.out).mono ?_;exact(h.alloc _).drewN _;rintro e w' ⟨rfl,k2,rfl⟩));refine bodyPost_ret (v:=.tuple #[.agg #[aa n,aa 1],.nilIface]) (by simp[results,results236,go_sem]) rfl ⟨rfl,?_⟩
   first|exact below_drewN ((aG _ _).alloc ai _) _|exact((below_drewN ((aG _ _).alloc ai _) _).setCell (by simp) _).setCell (by simp) _
  ·have hc':dH n 1=2\/dH n 1=3:=by rcases fC n 1 with e|e|e<;>simp_all
   have e:ck n 1=⟨0,0,dH n 1⟩:=by unfold ck;rw[if_neg hc]
   obtain⟨a,O6⟩:=gM aB aS aZ hc';rw[e];simp only;rw[Xf aT aB aS aZ (show dH n 1≠1 by omega),O6];have HC:=aj O6;clear e hc hc' O6;go_enter func236,ntmps236;go_wp2_with(first|(go_at_call 43;refine(BG s _ HB.out).mono ?_;rintro e w' ⟨rfl,k,rfl⟩)|(go_at_call 272;refine(nT s n _ HN.out).mono ?_;rintro e w' ⟨rfl,rfl⟩)|(go_at_call 182;refine(KI aB aS aZ _ _ a _ (by omega) (by omega) (by omega) (by omega) ?_ HC.out).mono ?_;exact(h.alloc _).drewN _;rintro e w' ⟨rfl,k2,rfl⟩));refine bodyPost_ret (v:=.tuple #[.agg #[aa 0,aa 0],.iface 401 (.pointer (some a))]) (by simp[results,results236,go_sem]) rfl ⟨rfl,?_⟩
   first|exact below_drewN ((aG _ _).alloc ai _) _|exact((below_drewN ((aG _ _).alloc ai _) _).setCell (by simp) _).setCell (by simp) _
theorem TB (aT aB aS aZ:Addr)(s a b:aC)(w:ag)(h:E3 aB aS aZ w)(hT:w.cell? (ak 1 0)=some (.iface 401 (.pointer (some aT))))(hb:behind 47 s.data.toList=some b.data.toList)(ha:ahead 47 s.data.toList=a.data.toList)(hm:s.size<=9223372036854775807):
  au 236 #[.string s] w fun e w'=>e=.returned (.tuple #[.agg #[aa (rd s.data.toList).n,aa (rd s.data.toList).d],Nf aT aB aS aZ (rd s.data.toList).c])/\Below w.heap.size w w':=by
 have HB:=aj hb;have HA:=aj ha;have hlt:=aF hT;simp only at hlt;have hne':¬1=w.heap.size:=by omega
 have hcT:∀o,(w.alloc o).cell? (ak 1 0)=some (.iface 401 (.pointer (some aT))):=fun o=>by
  rw[World.cell?_alloc_lt _ _ ⟨1,0,none⟩ hlt];exact hT
 cases hn:mh a.data.toList with
 |none=>
  have hr:rd s.data.toList=⟨0,0,1⟩:=by unfold rd;rw[ha,hn]
  rw[hr];have HN:=aj hn;clear hn hr ha hb hT hlt;go_enter func236,ntmps236;go_wp2_with(first|(go_at_call 43;refine(r9 s a b _ HB.out HA.out hm).mono ?_;rintro e w' ⟨rfl,k,rfl⟩)|(go_at_call 272;refine(KG a _ HN.out).mono ?_;rintro e w' ⟨rfl,rfl⟩));go_region;go_wp2;refine bodyPost_ret (v:=.tuple #[.agg #[aa 0,aa 0],.iface 401 (.pointer (some aT))]) (by simp[results,results236,go_sem]) rfl ⟨rfl,?_⟩
  first|exact below_drewN ((aG _ _).alloc ai _) _|exact((below_drewN ((aG _ _).alloc ai _) _).setCell (by simp) _).setCell (by simp) _
 |some n=>
  have hr:rd s.data.toList=if wF b.data.toList=true/\val b.data.toList≠1 then ck n (val b.data.toList) else⟨0,0,1⟩:=by unfold rd;rw[ha,hn,hb]
  rw[hr];have HN:=aj hn;obtain⟨n1,n2⟩:=wH hn;clear hn hr ha hb hT hlt;cases hd:wF b.data.toList with
  |false=>
   rw[if_neg (by simp)];have HD:=aj hd;clear hd;go_enter func236,ntmps236;go_wp2_with(first|(go_at_call 43;refine(r9 s a b _ HB.out HA.out hm).mono ?_;rintro e w' ⟨rfl,k,rfl⟩)|(go_at_call 272;refine(nT a n _ HN.out).mono ?_;rintro e w' ⟨rfl,rfl⟩)|(go_at_call 273;refine(jB b false 0 _ HD.out (by simp)).mono ?_;rintro e w' ⟨rfl,rfl⟩));go_region;go_wp2;refine bodyPost_ret (v:=.tuple #[.agg #[aa 0,aa 0],.iface 401 (.pointer (some aT))]) (by simp[results,results236,go_sem]) rfl ⟨rfl,?_⟩
   first|exact below_drewN ((aG _ _).alloc ai _) _|exact((below_drewN ((aG _ _).alloc ai _) _).setCell (by simp) _).setCell (by simp) _
  |true=>
   have hv:=uZ hd;obtain⟨d,hdv⟩:∃d:Nat,val b.data.toList=d:=⟨_,rfl⟩;rw[hdv];rw[hdv] at hv;have HD:=aj hd;have HV:Hid ((if true=true then(val b.data.toList:Int) else 0)=d):=by show _=_;rw[if_pos rfl,hdv]
   clear hd hdv;by_cases hd1:d=1
   ·subst hd1;rw[if_neg (by simp)];go_enter func236,ntmps236;go_wp2_with(first|(go_at_call 43;refine(r9 s a b _ HB.out HA.out hm).mono ?_;rintro e w' ⟨rfl,k,rfl⟩)|(go_at_call 272;refine(nT a n _ HN.out).mono ?_;rintro e w' ⟨rfl,rfl⟩)|(go_at_call 273;refine(jB b true 1 _ HD.out HV.out).mono ?_;rintro e w' ⟨rfl,rfl⟩));go_region;go_wp2;refine bodyPost_ret (v:=.tuple #[.agg #[aa 0,aa 0],.iface 401 (.pointer (some aT))]) (by simp[results,results236,go_sem]) rfl ⟨rfl,?_⟩
    first|exact below_drewN ((aG _ _).alloc ai _) _|exact((below_drewN ((aG _ _).alloc ai _) _).setCell (by simp) _).setCell (by simp) _
   ·rw[if_pos ⟨rfl,hd1⟩];have hd2:((d:Int)==1)=false:=by rw[beq_eq_false_iff_ne];omega
    clear hd1;by_cases hc:dH n d=0
    ·have e:ck n d=⟨n,d,0⟩:=by unfold ck;rw[if_pos hc]
     rw[e];have HC:=aj hc;clear e hc;go_enter func236,ntmps236;go_wp2_with(first|(go_at_call 43;refine(r9 s a b _ HB.out HA.out hm).mono ?_;rintro e w' ⟨rfl,k,rfl⟩)|(go_at_call 272;refine(nT a n _ HN.out).mono ?_;rintro e w' ⟨rfl,rfl⟩)|(go_at_call 273;refine(jB b true d _ HD.out HV.out).mono ?_;rintro e w' ⟨rfl,rfl⟩)|(go_at_call 182;refine(KH aB aS aZ _ _ _ (by omega) (by omega) (by omega) (by omega) ?_ HC.out).mono ?_;exact(h.alloc _).drewN _;rintro e w' ⟨rfl,k2,rfl⟩));refine bodyPost_ret (v:=.tuple #[.agg #[aa n,aa d],.nilIface]) (by simp[results,results236,go_sem]) rfl ⟨rfl,?_⟩
     first|exact below_drewN ((aG _ _).alloc ai _) _|exact((below_drewN ((aG _ _).alloc ai _) _).setCell (by simp) _).setCell (by simp) _
    ·have hc':dH n d=2\/dH n d=3:=by rcases fC n d with e|e|e<;>simp_all
     have e:ck n d=⟨0,0,dH n d⟩:=by unfold ck;rw[if_neg hc]
     obtain⟨ae,O6⟩:=gM aB aS aZ hc';rw[e];simp only;rw[Xf aT aB aS aZ (show dH n d≠1 by omega),O6];have HC:=aj O6;clear e hc hc' O6;go_enter func236,ntmps236;go_wp2_with(first|(go_at_call 43;refine(r9 s a b _ HB.out HA.out hm).mono ?_;rintro e w' ⟨rfl,k,rfl⟩)|(go_at_call 272;refine(nT a n _ HN.out).mono ?_;rintro e w' ⟨rfl,rfl⟩)|(go_at_call 273;refine(jB b true d _ HD.out HV.out).mono ?_;rintro e w' ⟨rfl,rfl⟩)|(go_at_call 182;refine(KI aB aS aZ _ _ ae _ (by omega) (by omega) (by omega) (by omega) ?_ HC.out).mono ?_;exact(h.alloc _).drewN _;rintro e w' ⟨rfl,k2,rfl⟩));refine bodyPost_ret (v:=.tuple #[.agg #[aa 0,aa 0],.iface 401 (.pointer (some ae))]) (by simp[results,results236,go_sem]) rfl ⟨rfl,?_⟩
     first|exact below_drewN ((aG _ _).alloc ai _) _|exact((below_drewN ((aG _ _).alloc ai _) _).setCell (by simp) _).setCell (by simp) _
theorem sD (aT aB aS aZ:Addr)(s:aC)(w:ag)(h:E3 aB aS aZ w)(hT:w.cell? (ak 1 0)=some (.iface 401 (.pointer (some aT))))(hm:s.size<=9223372036854775807):
  au 236 #[.string s] w fun e w'=>e=.returned (.tuple #[.agg #[aa (rd s.data.toList).n,aa (rd s.data.toList).d],Nf aT aB aS aZ (rd s.data.toList).c])/\Below w.heap.size w w':=by
 cases hb:behind 47 s.data.toList with
 |none=>exact TA aT aB aS aZ s w h hT hb
 |some b=>exact TB aT aB aS aZ s ⟨(ahead 47 s.data.toList).toArray⟩ ⟨b.toArray⟩ w h hT (by rw[hb]) rfl hm
theorem ownsRow_below {w w':ag}{base:Nat}{e:TypeId}{size n:Nat}{v:ah}{xs:List ah}(h:w.ownsRow base e size v n xs)(hb:Below w.heap.size w w'):w'.ownsRow base e size v n xs:=by
 obtain⟨h1,h2⟩:=h;refine⟨h1,?_⟩;rcases h2 with h2|⟨g,cap,cur,h3,h4,h5,h6⟩
 ·exact .inl h2
 ·exact .inr ⟨g,cap,cur,h3,h4,(hb.block g (cZ.1 h5).1).trans h5,h6⟩
theorem rq {w:ag}{base:Nat}{e:TypeId}{size n:Nat}{v:ah}{xs:List ah}(h:w.ownsRow base e size v (n+1) xs):∃g cap,v=.slice (some ⟨g,0,none⟩) (n+1) cap/\base<=g/\g<w.heap.size/\n+1<=cap/\cap<=maxLen/\∀j u,xs[j]? =some u->w.cell? (ak g j)=some u:=by
 obtain⟨h1,h2⟩:=h;rcases h2 with⟨_,h2⟩|⟨g,cap,cur,h3,h4,h5,h6,h7,h8,h9⟩
 ·omega
 ·refine⟨g,cap,h3,h4,(cZ.1 h5).1,h6,h7,fun j u hj=>?_⟩;rw[<- h9] at hj;have hc:cur[j]? =some u:=by
   rw[List.getElem?_take] at hj;split at hj
   ·simpa using hj
   ·cases hj
  simp[World.cell?,h5,hc]
theorem dY.grown {w w':ag}{R:Nat}{cs:Array ah}{t:TypeId}{row:Option Nat}(h:dY w R cs t)(hg:w.grownBy w' row)(hr:row≠some R):dY w' R cs t:=⟨(hg.block R h.lt (fun e=>hr e.symm)).trans h.h⟩
theorem O7 {w:ag}{base:Nat}{e:TypeId}{size n:Nat}{v:ah}{xs:List ah}(h:w.ownsRow base e size v n xs):∀k,v.ownBlock=some k->base<=k:=by
 obtain⟨_,h2⟩:=h;rcases h2 with⟨rfl,_⟩|⟨g,cap,cur,rfl,h4,_⟩
 ·intro k hk;cases hk
 ·intro k hk;simp only[Value.ownBlock] at hk;cases hk;exact h4
theorem BH:(prog.info? 123).map (fun i=>(i.zero,i.size,i.bytes))=some (some (.agg #[aa 0,aa 0]),2,16):=by kernel_rfl
theorem a1l {x y:Int}:∀u∈[Value.int .i64 x,aa y],u.oneCell'=true:=fun u hu=>by
 simp at hu;rcases hu with rfl|rfl<;>rfl
theorem H9 {w:ag}{x y:ah}{t:TypeId}{B:Nat}(hB:B=w.heap.size):∀(j:Nat) (u:ah),[x,y][j]? =some u->(w.alloc (.cells #[x,y] t)).cell? ((⟨B,0,none⟩:Addr).add j)=some u:=fun j u hj=>by
 match j,hj with
 |0,hj=>simp at hj;subst hj;exact bD hB rfl
 |1,hj=>simp at hj;subst hj;exact bD hB rfl
 |j+2,hj=>simp at hj
theorem a99 (F:Nat)(hcf:∀(av:Array ah) (w:ag),Sem.run prog (callFunc F av) w=.ok (.enter F av) w)(b o cap B:Nat)(s1 s2:aC)(x1 x2:Fr)(r:Mv)(W:ag)(hB:W.cell? (ak B 0)=some (.func (.func F) #[] #[]))(h1:W.cell? (ak b o)=some (.string s1))(h2:W.cell? (ak b (o+1))=some (.string s2))
  (R1:∀V,Below W.heap.size W V->au 236 #[.string s1] V fun e w'=>e=.returned (.tuple #[.agg #[aa x1.n,aa x1.d],.nilIface])/\Below V.heap.size V w')
  (R2:∀V,Below W.heap.size W V->au 236 #[.string s2] V fun e w'=>e=.returned (.tuple #[.agg #[aa x2.n,aa x2.d],.nilIface])/\Below V.heap.size V w')
  (HOW:∀V g c,Below W.heap.size W V->V.cell? (ak g 0)=some (aa x1.n)->V.cell? (ak g 1)=some (aa x1.d)->V.cell? (ak g 2)=some (aa x2.n)->V.cell? (ak g 3)=some (aa x2.d)->au F #[.slice (some ⟨g,0,none⟩) 2 c] V fun e w'=>e=.returned (mv r)/\Below V.heap.size V w'):
  au 300 #[.slice (some ⟨b,o,none⟩) 2 cap,ay B] W fun e w'=>e=.returned (.tuple #[mv r,.nilIface])/\Below W.heap.size W w':=by
 have L0:=(aG W.heap.size W).alloc ai (.cells zA 125);have B0:=dY.new W zA 125;have g1:=fun o=>ax o h1;obtain⟨i0,hi,hz0,hz1,hz2⟩:=info_parts BH;go_enter func300,ntmps300;go_wp2;refine wp_loop_rounds 3 ?_;rw[rounds_succ];go_wp2_with(first|(at_builtin;refine wpList_append_own_at _ rfl _ _ 328 rfl (W.heap.size+1) 123 i0 (.agg #[aa 0,aa 0]) 2 16 underlying328 hi hz0 hz1 hz2 rfl (by decide) (.slice none 0 0) 0 [] rfl O1 ⟨w1.heap.size+1,0,none⟩ 1 1 [aa x1.n,aa x1.d] rfl rfl (H9 (by simp)) a1l (by unfold maxLen;omega) (by omega) (by simp;omega) ?_;intro v1 V1 hown1 hgrow1 _ a3O;have L2:=((L1.alloc (by omega) _).alloc (by simp;omega) _).grown hgrow1 (by simp;omega) (fun k e=>by simp[Value.ownBlock] at e);have B2:=((B1.alloc _).alloc _).grown hgrow1 (by simp[Value.ownBlock]);have z1:=hgrow1.size;simp only[dB] at z1;have g2:=(L2.cell (p:=⟨b,o+1,none⟩) (aF h2)).trans h2)|(go_at_call_of 236 s1;refine(R1 _ L0).mono ?_;rintro e w1 ⟨rfl,hb1⟩;have Ng:=hb1.size;simp only[dB] at Ng;have L1:=(L0.trans (hb1.mono (by simp)));have B1:=B0.below hb1 ai;have O1:((w1.alloc (.cells #[aa x1.n,aa x1.d] 123)).alloc (.cells #[aa x1.n,aa x1.d] 123)).ownsRow (W.heap.size+1) 123 2 (.slice none 0 0) 0 []:=eH _ _ _ _));rw[rounds_succ];go_wp2_with(first|(at_builtin;refine wpList_append_own_at _ rfl _ _ 328 rfl (W.heap.size+1) 123 i0 (.agg #[aa 0,aa 0]) 2 16 underlying328 hi hz0 hz1 hz2 rfl (by decide) v1 1 _ rfl O2 ⟨w2.heap.size+1,0,none⟩ 1 1 [aa x2.n,aa x2.d] rfl rfl (H9 (by simp)) a1l (by unfold maxLen;omega) (by omega) (by simp;omega) ?_;intro v2 V2 hown2 hgrow2 _ agy;have lo2:=O7 O2;have L4:=((L3.alloc (by omega) _).alloc (by simp;omega) _).grown hgrow2 (by simp;omega) (fun k e=>by have:=lo2 k e;omega);have B4:=((B3.alloc _).alloc _).grown hgrow2 (fun e=>by have:=lo2 _ e;omega);obtain⟨g,c2,rfl,hg1,hg2,hg3,hg4,hg5⟩:=rq hown2;have gB:=(L4.cell (p:=⟨B,0,none⟩) (aF hB)).trans hB)|(go_at_call_of 236 s2;refine(R2 _ L2).mono ?_;rintro e w2 ⟨rfl,hb2⟩;have Wp:=hb2.size;have L3:=L2.trans (hb2.mono (by omega));have B3:=B2.below hb2 ai;have O2:=((ownsRow_below hown1 hb2).alloc (.cells #[aa x2.n,aa x2.d] 123)).alloc (.cells #[aa x2.n,aa x2.d] 123)))
 rw[rounds_succ];go_wp2_with((refine(HOW _ g c2 L4 (hg5 0 _ rfl) (hg5 1 _ rfl) (hg5 2 _ rfl) (hg5 3 _ rfl)).mono ?_;rintro e w5 ⟨rfl,hb5⟩;have sz5:=hb5.size;have B5:=B4.below hb5 ai;obtain⟨qC,Fy,qD,Fz,qE,FE,qF,FH,vJ,JR,vL,JS,vM,JU,vN,JV,vO,JW,vP,JX,jD,qW,jE,qX⟩:=B5.six));refine bodyPost_ret (v:=.tuple #[mv r,.nilIface]) (by simp[results,results300,go_sem,qC,qD,qE,qF,vJ,vL,vM,vN,vO,vP,jD,jE]) rfl ⟨rfl,?_⟩;exact aW (R:=W.heap.size) ai (mL r) 0 (L4.trans (hb5.mono (by omega)))
def Mv.shift (x y:Fr):Mv:=⟨.whole 1,.whole 0,.whole 0,.whole 1,x,y⟩
def Mv.scale (x y:Fr):Mv:=⟨x,.whole 0,.whole 0,y,.whole 0,.whole 0⟩
def Mv.skew (x:Fr):Mv:=⟨.whole 1,.whole 0,x,.whole 1,.whole 0,.whole 0⟩
def Mv.turn (c s:Int):Mv:=⟨.whole c,.whole s,.whole (-s),.whole c,.whole 0,.whole 0⟩
theorem TC (g c:Nat)(x1 x2:Fr)(W:ag)(k0:W.cell? (ak g 0)=some (aa x1.n))(k1:W.cell? (ak g 1)=some (aa x1.d))(k2:W.cell? (ak g 2)=some (aa x2.n))(k3:W.cell? (ak g 3)=some (aa x2.d)):
  au 278 #[.slice (some ⟨g,0,none⟩) 2 c] W fun e w'=>e=.returned (mv (Mv.shift x1 x2))/\Below W.heap.size W w':=by
 have HO:=pG;have lt:=aF k0;simp only at lt;have L0:=(aG W.heap.size W).alloc ai (.cells zA 125);have B0:=dY.new W zA 125;go_enter func278,ntmps278;go_wp2_with(go_at_call 51;refine(HO _).mono ?_;rintro e w1 ⟨rfl,hb1⟩;have LO:=L0.trans (hb1.mono (by simp));have sz:=hb1.size;simp only[dB] at sz;have B1:=B0.below hb1 ai;have n1:¬w1.heap.size=W.heap.size:=(by omega);have n2:¬W.heap.size=w1.heap.size:=(by omega);have n3:¬g=w1.heap.size:=(by omega);have n4:¬w1.heap.size=g:=(by omega);dsimp only[Mv.one,Fr.whole];have g0:=fun o=>ax o ((LO.cell (p:=⟨g,0,none⟩) (aF k0)).trans k0);have g1:=fun o=>ax o ((LO.cell (p:=⟨g,1,none⟩) (aF k1)).trans k1);have g2:=fun o=>ax o ((LO.cell (p:=⟨g,2,none⟩) (aF k2)).trans k2);have g3:=fun o=>ax o ((LO.cell (p:=⟨g,3,none⟩) (aF k3)).trans k3);obtain⟨qC,Fy,qD,Fz,qE,FE,qF,FH,vJ,JR,vL,JS,vM,JU,vN,JV,vO,JW,vP,JX,jD,qW,jE,qX⟩:=B1.WZ);go_region;go_wp2;refine bodyPost_ret (v:=mv (Mv.shift x1 x2)) (by simp[results,results278,go_sem,Mv.shift,Fr.whole,qC,qD,qE,qF,vJ,vL,vM,vN,vO,vP,jD,jE]) rfl ⟨rfl,?_⟩;exact below_drewN (aW (R:=W.heap.size) ai [aa 1,aa 1,aa 0,aa 1,aa 0,aa 1,aa 1,aa 1,aa x1.n,aa x1.d,aa x2.n,aa x2.d] 0 (LO.alloc (by omega) (.cells #[aa 1,aa 1,aa 0,aa 1,aa 0,aa 1,aa 1,aa 1,aa x1.n,aa x1.d,aa x2.n,aa x2.d] 125))) 1
theorem TE (g c:Nat)(x1 x2:Fr)(W:ag)(k0:W.cell? (ak g 0)=some (aa x1.n))(k1:W.cell? (ak g 1)=some (aa x1.d))(k2:W.cell? (ak g 2)=some (aa x2.n))(k3:W.cell? (ak g 3)=some (aa x2.d)):
  au 279 #[.slice (some ⟨g,0,none⟩) 2 c] W fun e w'=>e=.returned (mv (Mv.scale x1 x2))/\Below W.heap.size W w':=by
 have HO:=pG;have lt:=aF k0;simp only at lt;have L0:=(aG W.heap.size W).alloc ai (.cells zA 125);have B0:=dY.new W zA 125;go_enter func279,ntmps279;go_wp2_with(go_at_call 51;refine(HO _).mono ?_;rintro e w1 ⟨rfl,hb1⟩;have LO:=L0.trans (hb1.mono (by simp));have sz:=hb1.size;simp only[dB] at sz;have B1:=B0.below hb1 ai;have n1:¬w1.heap.size=W.heap.size:=(by omega);have n2:¬W.heap.size=w1.heap.size:=(by omega);have n3:¬g=w1.heap.size:=(by omega);have n4:¬w1.heap.size=g:=(by omega);dsimp only[Mv.one,Fr.whole];have g0:=fun o=>ax o ((LO.cell (p:=⟨g,0,none⟩) (aF k0)).trans k0);have g1:=fun o=>ax o ((LO.cell (p:=⟨g,1,none⟩) (aF k1)).trans k1);have g2:=fun o=>ax o ((LO.cell (p:=⟨g,2,none⟩) (aF k2)).trans k2);have g3:=fun o=>ax o ((LO.cell (p:=⟨g,3,none⟩) (aF k3)).trans k3);obtain⟨qC,Fy,qD,Fz,qE,FE,qF,FH,vJ,JR,vL,JS,vM,JU,vN,JV,vO,JW,vP,JX,jD,qW,jE,qX⟩:=B1.WZ);go_region;go_wp2;refine bodyPost_ret (v:=mv (Mv.scale x1 x2)) (by simp[results,results279,go_sem,Mv.scale,Fr.whole,qC,qD,qE,qF,vJ,vL,vM,vN,vO,vP,jD,jE]) rfl ⟨rfl,?_⟩;exact below_drewN (aW (R:=W.heap.size) ai [aa x1.n,aa x1.d,aa 0,aa 1,aa 0,aa 1,aa x2.n,aa x2.d,aa 0,aa 1,aa 0,aa 1] 0 (LO.alloc (by omega) (.cells #[aa x1.n,aa x1.d,aa 0,aa 1,aa 0,aa 1,aa x2.n,aa x2.d,aa 0,aa 1,aa 0,aa 1] 125))) 1
end
section
open Go.RowKit
attribute [local go_sem] gP
theorem xS (s:aC)(hs:s.size<4294967281)(W:ag):
  au 239 #[.string s,.string ⟨#[32]⟩] W fun e w'=>e=.returned (.slice (some ⟨W.heap.size,0,none⟩) (Lib.countB s ⟨#[32]⟩+1) (Lib.countB s ⟨#[32]⟩+1))/\w'=W.alloc (.cells ((Lib.splitB ⟨#[32]⟩ 0 (Lib.countB s ⟨#[32]⟩) s).map Value.string).toArray 9):=by
 have h1:1<=(⟨#[32]⟩:aC).size:=by decide
 have hle:=Lib.countB_le ⟨#[32]⟩ h1 s.size s ai;have hlen:=Lib.splitB_all ⟨#[32]⟩ h1 0 _ s rfl;have c:=Any.strings_genSplit_core Tryz.a1g (by kernel_rfl) s ⟨#[32]⟩ 0 (-1) (Lib.countB s ⟨#[32]⟩+1) W hs h1 (aP _)
  (fun x c _=>(Any.strings_Index_one Tryz.a1c x 32 _).mono fun e w' ⟨he,hw⟩=>⟨by rw[he,<- Lib.index_one],hw⟩)
  ((Any.strings_Count_one Tryz.a1e s 32 W).mono fun e w' ⟨he,hw⟩=>⟨by rw[he];show _=Ending.returned (Value.int .i64 ((Lib.count s.data.toList [32]:Nat):Int));rw[Lib.count_one];rfl,hw⟩)
  (by decide) (by decide) (by rw[if_pos (by decide)];omega)
 rw[Nat.add_sub_cancel,hlen] at c;have e2:Lib.cellsOf (Lib.splitB ⟨#[32]⟩ 0 (Lib.countB s ⟨#[32]⟩) s) (Lib.countB s ⟨#[32]⟩+1)=((Lib.splitB ⟨#[32]⟩ 0 (Lib.countB s ⟨#[32]⟩) s).map Value.string).toArray:=by rw[<- hlen];exact Lib.cellsOf_full _
 rw[e2] at c;go_enter func239,ntmps239;go_wp2_with(go_at_call 276;refine c.mono ?_;rintro e w' ⟨rfl,hw⟩;rw[hw]);go_ret;exact⟨rfl,rfl⟩
theorem QA {R:Nat}:∀(vs:List ah) (o:Nat) (w:ag) (j:Nat),j<o->(put w R o vs).cell? (ak R j)=w.cell? (ak R j)
 |[],_,_,_,_=>rfl
 |v::vs,o,w,j,h=>(QA vs (o+1) _ j (by omega)).trans (World.cell?_setCell_other _ _ _ _ (by intro e;have:=congrArg Addr.off e;simp only at this;omega))
theorem He {R:Nat}:∀(vs:List ah) (o:Nat) (w:ag),(∀i,i<vs.length->(w.cell? (ak R (o+i))).isSome=true)->∀j u,vs[j]? =some u->(put w R o vs).cell? (ak R (o+j))=some u
 |[],_,_,_,j,u,h=>by simp at h
 |v::vs,o,w,hw,0,u,h=>by
  simp at h;subst h;exact(QA vs (o+1) _ o (by omega)).trans (fM _ _ _ (hw 0 (by simp)))
 |v::vs,o,w,hw,j+1,u,h=>by
  have:=He vs (o+1) (w.setCell ⟨R,o,none⟩ v) (fun i hi=>by
   rw[World.cell?_setCell_other _ _ _ _ (by intro e;have:=congrArg Addr.off e;simp only at this;omega)];have:=hw (i+1) (by simp;omega);rwa[show o+(i+1)=o+1+i by omega] at this) j u (by simpa using h)
  rw[show o+(j+1)=o+1+j by omega];exact this
theorem ru {B:Nat}{w u:ag}(h:Below B w.drew u):Below B w u:=⟨h.os,h.tape,h.output,h.size,h.block⟩
theorem QC {cs:List ah}{w:ag}{t:TypeId}:∀j u,cs[j]? =some u->(w.alloc (.cells cs.toArray t)).cell? ⟨w.heap.size,j,none⟩=some u:=fun j u h=>bD rfl (by simpa using h)
theorem KJ {w:ag}{R:Nat}{cs:Array ah}{t:TypeId}(h:dY w R cs t):∀i,i<cs.size->(w.cell? (ak R (0+i))).isSome=true:=fun i hi=>by
 rw[h.cell (0+i) cs[i] (by simp[hi])];rfl
theorem Hf {w u:ag}{Q:Nat}{a b:ah}(hb:Below w.heap.size w u)(h:w.cell? (ak Q 0)=some a/\w.cell? (ak Q 1)=some b):u.cell? (ak Q 0)=some a/\u.cell? (ak Q 1)=some b:=⟨(hb.cell (p:=⟨Q,0,none⟩) (aF h.1)).trans h.1,(hb.cell (p:=⟨Q,1,none⟩) (aF h.2)).trans h.2⟩
theorem sF {w u:ag}{cs:Array ah}{t:TypeId}(hb:Below (w.alloc (.cells cs t)).drew.heap.size (w.alloc (.cells cs t)).drew u):dY u w.heap.size cs t:=dY.below (w:=(w.alloc (.cells cs t)).drew) ⟨(dY.new w cs t).h⟩ hb ai
theorem Xg:(prog.info? 125).map (fun i=>(i.zero,i.size,i.bytes))=some (some (.agg zA),12,96):=by kernel_rfl
theorem a3P {m:Mv}:∀u∈[Value.int .i64 m.a.n,aa m.a.d,aa m.b.n,aa m.b.d,aa m.c.n,aa m.c.d,aa m.d.n,aa m.d.d,aa m.e.n,aa m.e.d,aa m.f.n,aa m.f.d],u.oneCell'=true:=fun u hu=>by
 simp at hu;rcases hu with rfl|rfl|rfl|rfl|rfl|rfl|rfl|rfl|rfl|rfl|rfl|rfl<;>rfl
end
section
open Go.RowKit Go.Shelf
attribute [local go_sem] Oper.semAt_some
def jv (n j:Nat):List Nat:=(List.range (n-1-j)).map (fun k=>n-1-k)
theorem pJ {n j:Nat}(h:j<n):jv n j++[j]=(List.range (n-j)).map (fun k=>n-1-k):=by
 unfold jv;rw[show n-j=n-1-j+1 by omega,List.range_succ,List.map_append];simp;omega
theorem KN (n j:Nat):(jv n j).length=n-1-j:=by simp[jv]
def bf (n:Nat):List Nat:=(List.range n).map (fun k=>n-1-k)
theorem Hg {n j:Nat}(h:j+1<n):jv n (j+1)++[j+1]=jv n j:=by
 rw[pJ h,jv,show n-(j+1)=n-1-j by omega]
theorem Hl {n:Nat}(h:0<n):jv n 0++[0]=bf n:=by rw[pJ h,bf];rfl
theorem BI {n j:Nat}(h:j<n):jv n j++[j]<+:bf n:=by
 rw[pJ h,bf];refine List.IsPrefix.map _ ?_;refine⟨(List.range j).map (fun k=>(n-j)+k),?_⟩;rw[show List.range n=List.range ((n-j)+j) by congr 1;omega,List.range_add]
abbrev a3Q (m:Mv)(j:Nat):Array ah:=#[aa j,.agg (mA m)]
theorem wI (v:ah)(a:Option Addr)(n c:Nat)(hv:v=.slice a n c)(W:ag):au 199 #[v] W fun e w'=>e=.returned (.func (.func 244) #[] #[ay W.heap.size])/\w'=W.alloc (.cells #[v] 292):=by
 subst hv;go_enter func199,ntmps199;go_wp2;go_ret;exact⟨rfl,rfl⟩
end
section
open Go.RowKit Go.Shelf
attribute [local go_sem] Oper.semAt_some
structure gJ (E A n₀:Nat)(W W':ag):Prop where
 block:∀k,k<n₀->k≠E->k≠A->W'.heap[k]? =W.heap[k]?
theorem gJ.refl (E A n₀:Nat)(W:ag):gJ E A n₀ W W:=⟨fun _ _ _ _=>rfl⟩
theorem gJ.trans {E A n₀:Nat}{X Y Z:ag}(h:gJ E A n₀ X Y)(k:gJ E A n₀ Y Z):gJ E A n₀ X Z:=⟨fun i h1 h2 h3=>(k.block i h1 h2 h3).trans (h.block i h1 h2 h3)⟩
theorem gJ.of_below {E A n₀:Nat}{X Y:ag}(h:Below X.heap.size X Y)(hn:n₀<=X.heap.size):gJ E A n₀ X Y:=⟨fun i h1 _ _=>h.block i (by omega)⟩
theorem gJ.ad8 {E A n₀:Nat}{X Y:ag}(h:gJ E A n₀ X Y)(o:Nat)(v:ah):gJ E A n₀ X (Y.setCell ⟨E,o,none⟩ v):=⟨fun i h1 h2 h3=>(aY _ _ _ i h2).trans (h.block i h1 h2 h3)⟩
theorem gJ.a9a {E A n₀:Nat}{X:ag}:∀(vs:List ah) (o:Nat) {Y:ag},gJ E A n₀ X Y->gJ E A n₀ X (put Y A o vs)
 |[],_,_,h=>h
 |_::vs,o,_,h=>gJ.a9a vs (o+1) ⟨fun i h1 h2 h3=>(aY _ _ _ i h3).trans (h.block i h1 h2 h3)⟩
theorem gJ.put {E A n₀:Nat}(W:ag)(l:Nat)(o':Obj)(hl:n₀<=l):gJ E A n₀ W (W.putObj l o'):=⟨fun i h1 _ _=>World.putObj_heap_other (by omega)⟩
theorem lK {α:Type}{o:Option α}{v:α}(h:o=some v):o.isSome=true:=by rw[h];rfl
theorem lN:∀(vs:List ah) (o R:Nat) (W:ag),KeepsOthers W (put W R o vs)
 |[],_,_,W=>KeepsOthers.refl W
 |_::vs,o,R,W=>(eF W _ _).trans (lN vs (o+1) R _)
def cz (W:ag)(R:Nat)(vs:List ah):Prop:=vs.length=12/\(∀i u,vs[i]? =some u->W.cell? (ak R i)=some u)/\(∀i,i<12->W.frozen? ⟨R,i,none⟩=false)
theorem cz.twelve {w:ag}{R:Nat}{a0 a1 a2 a3 a4 a5 a6 a7 a8 a9 Qs Qu:ah}(h:cz w R [a0,a1,a2,a3,a4,a5,a6,a7,a8,a9,Qs,Qu]):w.cell? (ak R 0)=some a0/\w.cell? (ak R 1)=some a1/\w.cell? (ak R 2)=some a2/\w.cell? (ak R 3)=some a3/\w.cell? (ak R 4)=some a4/\w.cell? (ak R 5)=some a5/\w.cell? (ak R 6)=some a6/\w.cell? (ak R 7)=some a7/\w.cell? (ak R 8)=some a8/\w.cell? (ak R 9)=some a9/\w.cell? (ak R 10)=some Qs/\w.cell? (ak R 11)=some Qu:=⟨h.2.1 0 _ rfl,h.2.1 1 _ rfl,h.2.1 2 _ rfl,h.2.1 3 _ rfl,h.2.1 4 _ rfl,h.2.1 5 _ rfl,h.2.1 6 _ rfl,h.2.1 7 _ rfl,h.2.1 8 _ rfl,h.2.1 9 _ rfl,h.2.1 10 _ rfl,h.2.1 11 _ rfl⟩
theorem cz.six {w:ag}{R:Nat}{a0 a1 a2 a3 a4 a5 a6 a7 a8 a9 Qs Qu:ah}(h:cz w R [a0,a1,a2,a3,a4,a5,a6,a7,a8,a9,Qs,Qu]):w.cell? (ak R 0)=some a0/\w.frozen? ⟨R,0,none⟩=false/\w.cell? (ak R 1)=some a1/\w.frozen? ⟨R,1,none⟩=false/\w.cell? (ak R 2)=some a2/\w.frozen? ⟨R,2,none⟩=false/\w.cell? (ak R 3)=some a3/\w.frozen? ⟨R,3,none⟩=false/\w.cell? (ak R 4)=some a4/\w.frozen? ⟨R,4,none⟩=false/\w.cell? (ak R 5)=some a5/\w.frozen? ⟨R,5,none⟩=false/\w.cell? (ak R 6)=some a6/\w.frozen? ⟨R,6,none⟩=false/\w.cell? (ak R 7)=some a7/\w.frozen? ⟨R,7,none⟩=false/\w.cell? (ak R 8)=some a8/\w.frozen? ⟨R,8,none⟩=false/\w.cell? (ak R 9)=some a9/\w.frozen? ⟨R,9,none⟩=false/\w.cell? (ak R 10)=some Qs/\w.frozen? ⟨R,10,none⟩=false/\w.cell? (ak R 11)=some Qu/\w.frozen? ⟨R,11,none⟩=false:=⟨h.2.1 0 _ rfl,h.2.2 0 (by omega),h.2.1 1 _ rfl,h.2.2 1 (by omega),h.2.1 2 _ rfl,h.2.2 2 (by omega),h.2.1 3 _ rfl,h.2.2 3 (by omega),h.2.1 4 _ rfl,h.2.2 4 (by omega),h.2.1 5 _ rfl,h.2.2 5 (by omega),h.2.1 6 _ rfl,h.2.2 6 (by omega),h.2.1 7 _ rfl,h.2.2 7 (by omega),h.2.1 8 _ rfl,h.2.2 8 (by omega),h.2.1 9 _ rfl,h.2.2 9 (by omega),h.2.1 10 _ rfl,h.2.2 10 (by omega),h.2.1 11 _ rfl,h.2.2 11 (by omega)⟩
theorem cz.ve {W:ag}{R:Nat}{vs:List ah}{t:TypeId}(h:dY W R vs.toArray t)(hl:vs.length=12):cz W R vs:=
 ⟨hl,fun i u hu=>h.cell i u (by simpa using hu),fun i hi=>h.di i vs[i] (by simp[hl▸hi])⟩
theorem ko {p:Addr}:∀(vs:List ah) (o R:Nat) (W:ag),(put W R o vs).frozen? p=W.frozen? p
 |[],_,_,_=>rfl
 |_::vs,o,R,_=>(ko vs (o+1) R _).trans (World.frozen?_setCell _ _ _ _)
theorem cz.put {W:ag}{R:Nat}{vs us:List ah}(h:cz W R vs)(hl:us.length=12):cz (put W R 0 us) R us:=by
 refine⟨hl,fun i u hu=>?_,fun i hi=>(ko us 0 R W).trans (h.2.2 i hi)⟩;have:=He (R:=R) us 0 W (fun i hi=>by rw[Nat.zero_add,h.2.1 i (vs[i]'(by rw[h.1];omega)) (by simp)];rfl) i u hu;rwa[Nat.zero_add] at this
theorem cz.ku {W:ag}{R E o:Nat}{vs:List ah}{v:ah}(h:cz W R vs)(hE:R≠E):cz (W.setCell ⟨E,o,none⟩ v) R vs:=
 ⟨h.1,fun i u hu=>(aO _ _ _ _ (fun e=>hE e.symm)).trans (h.2.1 i u hu),fun i hi=>(World.frozen?_setCell _ _ _ _).trans (h.2.2 i hi)⟩
theorem cz.FK {W:ag}{R R':Nat}{vs us:List ah}(h:cz W R vs)(hE:R≠R'):cz (Go.Proofs.YtecneflbncjhpaaGreatDoor.put W R' 0 us) R vs:=
 ⟨h.1,fun i u hu=>(fe (p:=⟨R,i,none⟩) hE us 0 W).trans (h.2.1 i u hu),fun i hi=>(ko us 0 R' W).trans (h.2.2 i hi)⟩
theorem cz.kept {W W':ag}{R:Nat}{vs:List ah}{row:Option Nat}(h:cz W R vs)(hg:W.grownBy W' row)(hr:∀r,row=some r->∃o:Obj,W.heap[r]? =some o/\o.isCells=false):cz W' R vs:=
 ⟨h.1,fun i u hu=>cell_kept (h.2.1 i u hu) hg hr,fun i hi=>by
  have:=h.2.1 i (vs[i]'(by rw[h.1];omega)) (by simp);exact(frozen_kept this hg hr).trans (h.2.2 i hi)⟩
theorem cz.below {W W':ag}{R:Nat}{vs:List ah}(h:cz W R vs)(hb:Below W.heap.size W W'):cz W' R vs:=
 ⟨h.1,fun i u hu=>(hb.cell (aF (h.2.1 i u hu))).trans (h.2.1 i u hu),fun i hi=>by
  have:=h.2.1 i (vs[i]'(by rw[h.1];omega)) (by simp);exact(hb.frozen (p:=⟨R,i,none⟩) (aF this)).trans (h.2.2 i hi)⟩
end
section
open Go.RowKit Go.Shelf
set_option maxRecDepth 100000
attribute [local go_sem] Oper.semAt_some
theorem Xh (F:Fence)(n:Nat)(hf:F.fn 244)(hro:F.round=none)(hn:1<=n)(l Bl g len cap:Nat)(ms:Nat->Mv)(hlen:0<len)(hlen':len<=1000)(Kp:ag->ag->Prop)(hKr:∀A,Kp A A)(hKt:∀A B C,Kp A B->Kp B C->Kp A C)(hKl:∀A B,Kp A B->B.cell? (ak Bl 0)=A.cell? (ak Bl 0))(hKg:∀A B,Kp A B->∀o,B.cell? (ak g o)=A.cell? (ak g o))(J Jx:List Nat->ag->Prop)
    (hY:∀pre x W,J pre W->pre.length<len->YieldAt F (n-1) prog l #[aa (x:Nat),.agg (mA (ms x))] W fun e W'=>
      (e=.returned (.bool true)/\J (pre++[x]) W'/\Kp W W')\/(e=.returned (.bool false)/\Jx (pre++[x]) W'))
    (W:ag) (hBl:W.cell? (ak Bl 0)=some (.slice (some ⟨g,0,none⟩) len cap))
    (hc:∀j,j<len->∀i u,(mL (ms j))[i]? =some u->W.cell? (ak g (j*12+i))=some u) (h0:J [] W):
    CallsIn F n prog 244 #[.func (.yield l) #[] #[],ay Bl] W fun e W'=>(∃v,e=.returned v)/\
      ((∃ys,ys=bf len/\J ys W')\/(∃pre,pre<+:bf len/\Jx pre W')):=by
  refine callsIn_of_wp func244 rfl hf ?_ hro;simp only[ntmps244,List.size_toArray,List.length_cons,List.length_nil,Nat.reduceAdd,Nat.reduceSub,Array.replicate_succ,Array.replicate_zero,List.push_toArray,List.append_toArray,List.nil_append,List.cons_append];have hl1:IntKind.i64.wrap ((len:Int)-1)=((len-1:Nat):Int):=by rw[i64_in (by omega) (by omega)];omega
  gi_wp2
  gi_loopw [3] (fun i wr=>((∃j:Nat,j<len/\i=aa j/\J (jv len j) wr)\/(i=aa (-1)/\J (bf len) wr))/\Kp W wr)
    (fun i _=>(intOf i+1).toNat)
  case atStart=>
    refine⟨.inl ⟨len-1,by omega,?_,?_⟩,hKr _⟩
    · congr 1
    · rw[show jv len (len-1)=[] by simp[jv]];exact h0
  case round=>
    obtain⟨hcase,hnx⟩:=hrel;rcases hcase with⟨j,hj,rfl,hJs⟩|⟨rfl,hJs⟩
    · have cl:=(hKl _ _ hnx).trans hBl
      have hcj:=fun i u h=>(hKg _ _ hnx (j*12+i)).trans (hc j hj i u h);obtain⟨m0,m1,m2,m3,m4,m5,m6,m7,m8,m9,m10,m11⟩:=And.intro (hcj 0 _ rfl) (And.intro (hcj 1 _ rfl) (And.intro (hcj 2 _ rfl) (And.intro (hcj 3 _ rfl) (And.intro (hcj 4 _ rfl) (And.intro (hcj 5 _ rfl) (And.intro (hcj 6 _ rfl) (And.intro (hcj 7 _ rfl) (And.intro (hcj 8 _ rfl) (And.intro (hcj 9 _ rfl) (And.intro (hcj 10 _ rfl) (hcj 11 _ rfl)))))))))));clear hcj;simp only[Nat.add_zero] at m0;obtain⟨fn,tmps,assign,body,hy,hR⟩:=hY _ j wr hJs (by rw[KN];omega)
      gi_wp2
      refine hR.mono ?_;rintro e W3 (⟨rfl,hJ3,hk3⟩|⟨rfl,hJx3⟩)
      · gi_wp2
        go_roundw
        case rel=>
          refine⟨?_,hKt _ _ _ hnx hk3⟩;cases j with
          |zero=>exact .inr ⟨by simp,by rw[<- Hl hlen];exact hJ3⟩
          |succ j=>exact .inl ⟨j,by omega,by simp,by rw[<- Hg hj];exact hJ3⟩
        case measure=>simp[intOf]
      · gi_wp2
        refine bodyPost_ret (results_none rfl _ _ _) rfl ?_;exact⟨⟨_,rfl⟩,.inr ⟨_,BI hj,hJx3⟩⟩
    · gi_wp2
      go_end0
      exact⟨⟨_,rfl⟩,.inl ⟨_,rfl,hJs⟩⟩
end
section
open Go.RowKit Go.Shelf
set_option maxRecDepth 100000
attribute [local go_sem] Oper.semAt_some
theorem O8 {A B:ag}(h:KeepsOthers A B):KeepsOthers A B.drew:=⟨h.size,h.same⟩
theorem cz.drew {W:ag}{R:Nat}{vs:List ah}(h:cz W R vs):cz W.drew R vs:=h
theorem FL {W:ag}{p:Addr}{v:ah}(h:W.cell? p=some v):W.drew.cell? p=some v:=h
theorem Xi (aB:Addr)(s:aC)(ms:Nat->Mv)(n:Nat)(acc:List Nat->Mv)(VA:List Nat->Prop)(hok0:VA [])(ad9:∀p q,VA (p++q)->VA p)(W:ag)(hn:0<n)(hn':n<=1000)(ha:acc []=.one)
    (HL:∀V,Below W.heap.size W V->au 198 #[.string s] V fun e w'=>(∃g cap,e=.returned (.tuple #[.slice (some ⟨g,0,none⟩) n cap,.nilIface])/\g<w'.heap.size/\∀j,j<n->∀i u,(mL (ms j))[i]? =some u->w'.cell? (ak g (j*12+i))=some u)/\Below V.heap.size V w')
    (HT:∀pre x,VA pre->VA (pre++[x])->∀V,Below W.heap.size W V->au 147 #[mv (acc pre),mv (ms x)] V fun e w'=>e=.returned (.tuple #[mv (acc (pre++[x])),.nilIface])/\Below V.heap.size V w')
    (HN:∀pre x,VA pre->¬VA (pre++[x])->∀V,Below W.heap.size W V->au 147 #[mv (acc pre),mv (ms x)] V fun e w'=>e=.returned (.tuple #[mv .zero,.iface 401 (.pointer (some aB))])/\Below V.heap.size V w'):
    CallsIn Fence.wide 9 prog 146 #[.string s] W fun e w'=>(VA (bf n)/\e=.returned (.tuple #[mv (acc (bf n)),.nilIface])\/¬VA (bf n)/\e=.returned (.tuple #[mv .zero,.iface 401 (.pointer (some aB))]))/\Below W.heap.size W w':=by
  have HO:=pG;have HB:=wI;have L0:=((aG W.heap.size W).alloc ai (.cells zA 125)).alloc (by simp) (.cells #[.nilIface] 26);have R0:dY ((W.alloc (.cells zA 125)).alloc (.cells #[.nilIface] 26)) W.heap.size zA 125:=(dY.new W _ _).alloc _;have Q0:=dY.new (W.alloc (.cells zA 125)) #[.nilIface] 26;rw[dB] at Q0;refine callsIn_of_wp_marks func146 rfl trivial ?_ rfl;simp only[ntmps146,List.size_toArray,List.length_cons,List.length_nil,Nat.reduceAdd,Nat.reduceSub,Array.replicate_succ,Array.replicate_zero,List.push_toArray,List.append_toArray,List.nil_append,List.cons_append]
  gi_wp2_with (first|(refine⟨trivial,?_⟩;gi_at_call 199;refine(callsIn_wide.2 (HB _ _ _ _ rfl _)).mono ?_;rintro e w' ⟨rfl,rfl⟩)|(refine⟨trivial,?_⟩;gi_at_call 51;refine(callsIn_wide.2 (HO _)).mono ?_;rintro e w2 ⟨rfl,hb2⟩;dsimp only[Mv.one,Fr.whole])|(refine⟨trivial,?_⟩;gi_at_call 198;refine(callsIn_wide.2 (HL _ L0)).mono ?_;rintro e w1 ⟨⟨g,cap,rfl,hg,hcells⟩,hb1⟩))
  have Ng:=hb1.size;simp only[dB] at Ng;have Wp:=hb2.size;simp only[dB] at Wp;have e1:(w1.alloc (.cells #[.nilIface] 26)).heap.size=w1.heap.size+1:=by simp
  have E2:=(dY.new w1 #[.nilIface] 26).below hb2 ai;have R2:=((R0.below hb1 ai).alloc (.cells #[.nilIface] 26)).below hb2 ai;have Q2:=((Q0.below hb1 ai).alloc (.cells #[.nilIface] 26)).below hb2 ai;have L2:=((L0.trans (hb1.mono (by simp;omega))).alloc (by omega) (.cells #[.nilIface] 26)).trans (hb2.mono (by simp;omega));have hc2:∀j,j<n->∀i u,(mL (ms j))[i]? =some u->w2.cell? (ak g (j*12+i))=some u:=fun j hj i u hu=>(hb2.cell (p:=⟨g,j*12+i,none⟩) (by simp;omega)).trans (ax _ (hcells j hj i u hu));obtain⟨U,hU⟩:∃U,(w2.alloc (.cells oA 125)).alloc (.cells #[.slice (some ⟨g,0,none⟩) n cap] 292)=U:=⟨_,rfl⟩;have szU:U.heap.size=w2.heap.size+2:=by rw[<- hU];simp
  have A3:dY U w2.heap.size oA 125:=by rw[<- hU];exact(dY.new w2 _ _).alloc _
  have C3:U.cell? ⟨w2.heap.size+1,0,none⟩=some (.slice (some ⟨g,0,none⟩) n cap):=by rw[<- hU];exact bD (by simp) rfl
  have E3:dY U w1.heap.size #[.nilIface] 26:=by rw[<- hU];exact(E2.alloc _).alloc _
  have R3:dY U W.heap.size zA 125:=by rw[<- hU];exact(R2.alloc _).alloc _
  have Q3:dY U (W.heap.size+1) #[.nilIface] 26:=by rw[<- hU];exact(Q2.alloc _).alloc _
  have L3:Below W.heap.size W U:=by rw[<- hU];exact(L2.alloc (by omega) _).alloc (by simp;omega) _
  have hc3:∀j,j<n->∀i u,(mL (ms j))[i]? =some u->U.cell? (ak g (j*12+i))=some u:=fun j hj i u hu=>by rw[<- hU];exact ax _ (ax _ (hc2 j hj i u hu))
  rw[hU];clear hU L2 hc2 hcells R0 Q0 E2 R2 Q2;refine wpIn_rangeFunc_ownH rfl (by omega) (gf:=244) (lb:=#[.pointer (some ⟨w2.heap.size+1,0,none⟩)]) rfl trivial (enters_of func244 (by kernel_rfl) rfl)
    (encs:=fun x:Nat=>a3Q (ms x) x) (Kp:=gJ w1.heap.size w2.heap.size U.heap.size) (S:=fun ys=>ys=bf n) (Sp:=fun pre=>pre<+:bf n) (N:=n) (w0:=U)
    (fun l J Jx X hX _ _ hY h0=>Xh Fence.wide _ trivial rfl (by omega) l (w2.heap.size+1) g n cap ms hn hn' _ (gJ.refl _ _ _) (fun _ _ _=>gJ.trans)
      (fun A B h=>World.cell?_of_block (h.block (w2.heap.size+1) (by omega) (by omega) (by omega))) (fun A B h o=>World.cell?_of_block (h.block g (by omega) (by omega) (by omega))) J Jx hY X ((hX.cell (p:=⟨w2.heap.size+1,0,none⟩) (by simp only;omega)).trans C3) (fun j hj i u hu=>(hX.cell (p:=⟨g,j*12+i,none⟩) (by simp only;omega)).trans (hc3 j hj i u hu)) h0)
    gJ.trans (fun X l o o' hl _ _ _=>gJ.put X l o' hl) (aG _ _) (fun _=>rfl)
    (fun pre X=>(VA pre/\cz X w2.heap.size (mL (acc pre))/\(X.cell? ⟨w1.heap.size,0,none⟩=some .nilIface/\X.frozen? ⟨w1.heap.size,0,none⟩=false)/\cz X W.heap.size zL/\(X.cell? ⟨W.heap.size+1,0,none⟩=some .nilIface/\X.frozen? ⟨W.heap.size+1,0,none⟩=false)/\U.heap.size<=X.heap.size)/\Below W.heap.size W X)
    (fun c pre X=>(c=.ret/\¬VA pre/\cz X W.heap.size zL/\X.cell? ⟨W.heap.size+1,0,none⟩=some (.iface 401 (.pointer (some aB))))/\Below W.heap.size W X)
    (OwnFrom.and (Own.from (fun pre A B row hs hg hr=>⟨hs.1,hs.2.1.kept hg hr,⟨cell_kept hs.2.2.1.1 hg hr,(frozen_kept hs.2.2.1.1 hg hr).trans hs.2.2.1.2⟩,hs.2.2.2.1.kept hg hr,⟨cell_kept hs.2.2.2.2.1.1 hg hr,(frozen_kept hs.2.2.2.2.1.1 hg hr).trans hs.2.2.2.2.1.2⟩,aJ hs.2.2.2.2.2 hg.size⟩) _) (ownFrom_below ai (by omega)))
    (fun c=>OwnFrom.and (Own.from (fun s A B row hs hg hr=>⟨hs.1,hs.2.1,hs.2.2.1.kept hg hr,cell_kept hs.2.2.2 hg hr⟩) _) (ownFrom_below ai (by omega)))
    ⟨⟨hok0,by rw[ha];exact cz.ve (vs:=oL) A3 rfl,⟨E3.cell 0 _ rfl,E3.di 0 _ rfl⟩,cz.ve (vs:=zL) R3 rfl,⟨Q3.cell 0 _ rfl,Q3.di 0 _ rfl⟩,Nat.le_refl _⟩,L3⟩
    (fun x a' X=>∃Bx,U.heap.size<=Bx/\cz X Bx (mL (ms x))/\a'={tmps:=#[.string s,undef,ay W.heap.size,.pointer (some ⟨W.heap.size+1,0,none⟩),.slice (some ⟨g,0,none⟩) n cap,ay w1.heap.size,ay w2.heap.size,undef,ay Bx,.tuple #[.slice (some ⟨g,0,none⟩) n cap,.nilIface],.string s,.tuple #[.slice (some ⟨g,0,none⟩) n cap,.nilIface],.slice (some ⟨g,0,none⟩) n cap,.nilIface,.nilIface,.bool false,undef,undef,.agg oA,.slice (some ⟨g,0,none⟩) n cap,.func (.func 244) #[] #[.pointer (some ⟨w2.heap.size+1,0,none⟩)],aa (x:Nat),.agg (mA (ms x)),undef,undef,undef,undef,undef,undef,undef,undef,undef,undef,undef],defers:=[]})
    (fun x a' s A B row hs hg hr=>by obtain⟨Bx,h1,h2,h3⟩:=hs;exact⟨Bx,h1,h2.kept hg (fun r e=>(hr r e).2),h3⟩)
    ?assign ?body ?done ?stop
  case assign=>
    rintro l pre x X K ⟨⟨hop,h1,⟨h2,h2f⟩,h3,⟨h4,h4f⟩,hU⟩,hB⟩ hK
    gi_wp2
    have hs:=hB.size;have hal:=(aG X.heap.size X).alloc ai (.cells (mA (ms x)) 125);exact hK _ _ ((KeepsOthers.alloc _ _).from _) (gJ.of_below hal hU) ⟨⟨hop,h1.below hal,⟨ax _ h2,eP _ h2 h2f⟩,h3.below hal,⟨ax _ h4,eP _ h4 h4f⟩,aJ hU hal.size⟩,hB.alloc hs _⟩ ⟨X.heap.size,hU,cz.ve (vs:=(mL (ms x))) (dY.new X _ _) rfl,rfl⟩
  case body=>
    rintro l pre x a' X hl hr ⟨⟨hop,h1,⟨h2,h2f⟩,h3,⟨h4,h4f⟩,hU⟩,hB⟩ ⟨Bx,hBx,hM,rfl⟩ hlen;obtain⟨ac0,ac1,ac2,ac3,ac4,ac5,ac6,ac7,ac8,ac9,Tu,Tv⟩:=h1.twelve;obtain⟨mc0,mc1,mc2,mc3,mc4,mc5,mc6,mc7,mc8,mc9,ada,adb⟩:=hM.twelve;have ne1:¬w1.heap.size=w2.heap.size:=by omega
    have ne2:¬w2.heap.size=w1.heap.size:=by omega
    by_cases hxp:VA (pre++[x])
    · have HK:=HT pre x hop hxp X hB
      gi_wp2_with ((refine⟨trivial,?_⟩;gi_at_call 147;refine(CallsIn.inRound l (callsIn_wide.2 HK)).mono ?_;rintro e w' ⟨rfl,hb'⟩;have h1':=h1.below hb';have hz':=hb'.size;obtain⟨bc0,bf0,bc1,bf1,bc2,bf2,bc3,bf3,bc4,bf4,bc5,bf5,bc6,bf6,bc7,bf7,bc8,bf8,bc9,bf9,a0U,a9b,a0V,a9c⟩:=h1'.six;have ec:=(hb'.cell (p:=⟨w1.heap.size,0,none⟩) (aF h2)).trans h2;have ef:=(hb'.frozen (p:=⟨w1.heap.size,0,none⟩) (aF h2)).trans h2f))
      have h3':=h3.below hb';have c4:=(hb'.cell (p:=⟨W.heap.size+1,0,none⟩) (aF h4)).trans h4;have f4:=(hb'.frozen (p:=⟨W.heap.size+1,0,none⟩) (aF h4)).trans h4f;refine⟨(((lq hb').trans (lN (mL (acc (pre++[x]))) 0 w2.heap.size w')).trans (eF _ _ _)).from _,((gJ.of_below hb' hU).a9a (mL (acc (pre++[x]))) 0).ad8 0 .nilIface,⟨hxp,?_,⟨?_,?_⟩,?_,⟨?_,?_⟩,?_⟩,?_⟩
      · exact(h1'.put (us:=(mL (acc (pre++[x])))) rfl).ku ne2
      · exact fM _ _ _ (lK ((fe (p:=⟨w1.heap.size,0,none⟩) (R:=w2.heap.size) ne1 (mL (acc (pre++[x]))) 0 w').trans ec))
      · exact(World.frozen?_setCell _ _ _ _).trans ((ko (mL (acc (pre++[x]))) 0 w2.heap.size w').trans ef)
      · exact(h3'.FK (us:=(mL (acc (pre++[x])))) (R':=w2.heap.size) (by omega)).ku (by omega)
      · exact(aO _ _ _ _ (by simp only;omega)).trans ((fe (p:=⟨W.heap.size+1,0,none⟩) (R:=w2.heap.size) (by simp only;omega) (mL (acc (pre++[x]))) 0 w').trans c4)
      · exact(World.frozen?_setCell _ _ _ _).trans ((ko (mL (acc (pre++[x]))) 0 w2.heap.size w').trans f4)
      · have:=(aW (B:=0) (A:=w') (R:=w2.heap.size) (aP _) (mL (acc (pre++[x]))) 0 (aG 0 w')).size
        simp only[World.size_setCell] at*;omega
      · exact(aW (R:=w2.heap.size) (by omega) (mL (acc (pre++[x]))) 0 (hB.trans (hb'.mono hB.size))).setCell (p:=⟨w1.heap.size,0,none⟩) (by simp only;omega) _
    · have HK:=HN pre x hop hxp X hB
      gi_wp2_with ((refine⟨trivial,?_⟩;gi_at_call 147;refine(CallsIn.inRound l (callsIn_wide.2 HK)).mono ?_;rintro e w' ⟨rfl,hb'⟩;dsimp only[Mv.zero,Fr.zero];have h1':=h1.below hb';have hz':=hb'.size;obtain⟨bc0,bf0,bc1,bf1,bc2,bf2,bc3,bf3,bc4,bf4,bc5,bf5,bc6,bf6,bc7,bf7,bc8,bf8,bc9,bf9,a0U,a9b,a0V,a9c⟩:=h1'.six;have ec:=(hb'.cell (p:=⟨w1.heap.size,0,none⟩) (aF h2)).trans h2;have ef:=(hb'.frozen (p:=⟨w1.heap.size,0,none⟩) (aF h2)).trans h2f))
      have h3':=h3.below hb';have c4:=(hb'.cell (p:=⟨W.heap.size+1,0,none⟩) (aF h4)).trans h4;have f4:=(hb'.frozen (p:=⟨W.heap.size+1,0,none⟩) (aF h4)).trans h4f;obtain⟨Y,hY⟩:∃Y,(put w' w2.heap.size 0 zL).setCell ⟨w1.heap.size,0,none⟩ (.iface 401 (.pointer (some aB)))=Y:=⟨_,rfl⟩;have hKO:KeepsOthers X Y:=by rw[<- hY];exact((lq hb').trans (lN zL 0 w2.heap.size w')).trans (eF _ _ _)
      have y1:Y.cell? ⟨w1.heap.size,0,none⟩=some (.iface 401 (.pointer (some aB))):=by rw[<- hY];exact fM _ _ _ (lK ((fe (p:=⟨w1.heap.size,0,none⟩) (R:=w2.heap.size) ne1 zL 0 w').trans ec))
      have y3:cz Y W.heap.size zL:=by rw[<- hY];exact(h3'.FK (us:=zL) (R':=w2.heap.size) (by omega)).ku (by omega)
      have y4:Y.cell? ⟨W.heap.size+1,0,none⟩=some .nilIface:=by rw[<- hY];exact(aO _ _ _ _ (by simp only;omega)).trans ((fe (p:=⟨W.heap.size+1,0,none⟩) (R:=w2.heap.size) (by simp only;omega) zL 0 w').trans c4)
      have y5:Y.frozen? ⟨W.heap.size+1,0,none⟩=false:=by rw[<- hY];exact(World.frozen?_setCell _ _ _ _).trans ((ko zL 0 w2.heap.size w').trans f4)
      have yB:Below W.heap.size W Y:=by rw[<- hY];exact(aW (R:=w2.heap.size) (by omega) zL 0 (hB.trans (hb'.mono hB.size))).setCell (p:=⟨w1.heap.size,0,none⟩) (by simp only;omega) _
      change Code.wpIn _ _ _ _ _ _ ((put w' w2.heap.size 0 zL).setCell ⟨w1.heap.size,0,none⟩ (.iface 401 (.pointer (some aB))));rw[hY];clear hY;obtain⟨rc0,rf0,rc1,rf1,xU,rf2,rc3,rf3,rc4,rf4,rc5,rf5,rc6,rf6,rc7,rf7,rc8,rf8,rc9,rf9,a9d,a9e,a9f,a9g⟩:=y3.six;have ne3:¬W.heap.size=w1.heap.size:=by omega
      have ne4:¬w1.heap.size=W.heap.size:=by omega
      have ne5:¬W.heap.size+1=W.heap.size:=by omega
      have ne6:¬W.heap.size=W.heap.size+1:=by omega
      clear ec ef bc0 bf0 bc1 bf1 bc2 bf2 bc3 bf3 bc4 bf4 bc5 bf5 bc6 bf6 bc7 bf7 bc8 bf8 bc9 bf9 a0U a9b a0V a9c h1' h3' c4 f4 hb' hz'
      gi_region
      all_goals
        gi_wp2
        refine⟨KeepsOthers.from (O8 ((hKO.trans (lN zL 0 W.heap.size Y)).trans (eF _ ⟨W.heap.size+1,0,none⟩ (.iface 401 (.pointer (some aB)))))) _,⟨rfl,hxp,?_,?_⟩,?_⟩
        · exact cz.drew ((y3.put (us:=zL) rfl).ku ne6)
        · exact FL (fM _ _ _ (lK ((fe (p:=⟨W.heap.size+1,0,none⟩) (R:=W.heap.size) ne5 zL 0 Y).trans y4)))
        · exact below_drewN ((aW (R:=W.heap.size) ai zL 0 yB).setCell (p:=⟨W.heap.size+1,0,none⟩) (by simp only;omega) _) 1
  case done=>
    rintro D ys X hD rfl ⟨⟨hop,h1,⟨h2,h2f⟩,h3,⟨h4,h4f⟩,hU⟩,hB⟩ hK;obtain⟨ac0,ac1,ac2,ac3,ac4,ac5,ac6,ac7,ac8,ac9,Tu,Tv⟩:=h1.twelve;obtain⟨rc0,rf0,rc1,rf1,xU,rf2,rc3,rf3,rc4,rf4,rc5,rf5,rc6,rf6,rc7,rf7,rc8,rf8,rc9,rf9,a9d,a9e,a9f,a9g⟩:=h3.six;have ne3:¬W.heap.size=w2.heap.size:=by omega
    have ne4:¬w2.heap.size=W.heap.size:=by omega
    have ne5:¬W.heap.size+1=W.heap.size:=by omega
    have ne6:¬W.heap.size=W.heap.size+1:=by omega
    gi_wp2
    have hK':=((lN (mL (acc (bf n))) 0 W.heap.size X).trans (eF _ ⟨W.heap.size+1,0,none⟩ .nilIface)).same D _ hK rfl;refine⟨by simp,.inl ⟨_,_,rfl,run_takeDeferred hK',?_⟩⟩;have hO:cz ((((((((((((((X.setCell ⟨W.heap.size,0,none⟩ (aa (acc (bf n)).a.n)).setCell ⟨W.heap.size,1,none⟩ (aa (acc (bf n)).a.d)).setCell ⟨W.heap.size,2,none⟩ (aa (acc (bf n)).b.n)).setCell ⟨W.heap.size,3,none⟩ (aa (acc (bf n)).b.d)).setCell ⟨W.heap.size,4,none⟩ (aa (acc (bf n)).c.n)).setCell ⟨W.heap.size,5,none⟩ (aa (acc (bf n)).c.d)).setCell ⟨W.heap.size,6,none⟩ (aa (acc (bf n)).d.n)).setCell ⟨W.heap.size,7,none⟩ (aa (acc (bf n)).d.d)).setCell ⟨W.heap.size,8,none⟩ (aa (acc (bf n)).e.n)).setCell ⟨W.heap.size,9,none⟩ (aa (acc (bf n)).e.d)).setCell ⟨W.heap.size,10,none⟩ (aa (acc (bf n)).f.n)).setCell ⟨W.heap.size,11,none⟩ (aa (acc (bf n)).f.d)).setCell ⟨W.heap.size+1,0,none⟩ .nilIface).putObj D (.deferred none)) W.heap.size (mL (acc (bf n))):=((h3.put (us:=(mL (acc (bf n)))) rfl).ku (o:=0) (v:=.nilIface) ne6).kept (grownBy_putObj' _ D (.deferred none)) (fun r e=>by cases e;exact⟨_,hK',rfl⟩);have hQ:((((((((((((((X.setCell ⟨W.heap.size,0,none⟩ (aa (acc (bf n)).a.n)).setCell ⟨W.heap.size,1,none⟩ (aa (acc (bf n)).a.d)).setCell ⟨W.heap.size,2,none⟩ (aa (acc (bf n)).b.n)).setCell ⟨W.heap.size,3,none⟩ (aa (acc (bf n)).b.d)).setCell ⟨W.heap.size,4,none⟩ (aa (acc (bf n)).c.n)).setCell ⟨W.heap.size,5,none⟩ (aa (acc (bf n)).c.d)).setCell ⟨W.heap.size,6,none⟩ (aa (acc (bf n)).d.n)).setCell ⟨W.heap.size,7,none⟩ (aa (acc (bf n)).d.d)).setCell ⟨W.heap.size,8,none⟩ (aa (acc (bf n)).e.n)).setCell ⟨W.heap.size,9,none⟩ (aa (acc (bf n)).e.d)).setCell ⟨W.heap.size,10,none⟩ (aa (acc (bf n)).f.n)).setCell ⟨W.heap.size,11,none⟩ (aa (acc (bf n)).f.d)).setCell ⟨W.heap.size+1,0,none⟩ .nilIface).putObj D (.deferred none)).cell? ⟨W.heap.size+1,0,none⟩=some .nilIface:=cell_kept (fM _ _ .nilIface (lK ((fe (p:=⟨W.heap.size+1,0,none⟩) (R:=W.heap.size) ne5 (mL (acc (bf n))) 0 X).trans h4))) (grownBy_putObj' _ D (.deferred none)) (fun r e=>by cases e;exact⟨_,hK',rfl⟩)
    obtain⟨oc0,oc1,oc2,oc3,oc4,oc5,oc6,oc7,oc8,oc9,O9,Oa⟩:=hO.twelve;clear hO;have hL:=(aW (R:=W.heap.size) ai (mL (acc (bf n))) 0 hB).setCell (p:=⟨W.heap.size+1,0,none⟩) (by simp only;omega) .nilIface;refine⟨.tuple #[mv (acc (bf n)),.nilIface],?_,.inl ⟨hop,rfl⟩,hL.trans (belowK_b (w:=W) ai _ D _ _ (by omega) hK' rfl rfl)⟩;simp[results,results146,go_sem,hQ,oc0,oc1,oc2,oc3,oc4,oc5,oc6,oc7,oc8,oc9,O9,Oa]
  case stop=>
    rintro D c pre X hD hpre ⟨⟨rfl,h1,h2,h3⟩,hB⟩ hK
    gi_wp2
    refine⟨by simp,.inl ⟨_,_,rfl,run_takeDeferred hK,?_⟩⟩;have hr:∀r,some D=some r->∃o:Obj,X.heap[r]? =some o/\o.isCells=false:=fun r e=>by cases e;exact⟨_,hK,rfl⟩
    have hg:=grownBy_putObj' X D (.deferred none);have hc5:=cell_kept h3 hg hr;have h2':=h2.kept hg hr;obtain⟨oc0,oc1,oc2,oc3,oc4,oc5,oc6,oc7,oc8,oc9,O9,Oa⟩:=h2'.twelve;obtain⟨r,hr'⟩:=hpre;refine⟨.tuple #[mv .zero,.iface 401 (.pointer (some aB))],?_,.inr ⟨fun e=>h1 (ad9 pre r (by rw[hr'];exact e)),rfl⟩,hB.trans (belowK_b (w:=W) ai X D _ _ (by omega) hK rfl rfl)⟩;simp[results,results146,go_sem,Mv.zero,Fr.zero,hc5,oc0,oc1,oc2,oc3,oc4,oc5,oc6,oc7,oc8,oc9,O9,Oa]
end
section
open Go.RowKit Go.Shelf
set_option maxRecDepth 100000
attribute [local go_sem] Oper.semAt_some
theorem Xj (F:Fence)(n:Nat)(hf:F.fn 244)(hro:F.round=none)(l Bl:Nat)(J Jx:List Nat->ag->Prop)
  (W:ag) (hBl:W.cell? (ak Bl 0)=some (.slice none 0 0)) (h0:J [] W):
  CallsIn F n prog 244 #[.func (.yield l) #[] #[],ay Bl] W fun e W'=>(∃v,e=.returned v)/\
   ((∃ys,ys=[]/\J ys W')\/(∃pre,pre<+:[]/\Jx pre W')):=by
 refine callsIn_of_wp func244 rfl hf ?_ hro;simp only[ntmps244,List.size_toArray,List.length_cons,List.length_nil,Nat.reduceAdd,Nat.reduceSub,Array.replicate_succ,Array.replicate_zero,List.push_toArray,List.append_toArray,List.nil_append,List.cons_append]
 gi_wp2
 gi_loopw [3] (fun i wr=>i=aa (-1)/\J [] wr) (fun _ _=>0)
 case atStart=>exact⟨rfl,h0⟩
 case round=>
  obtain⟨rfl,hJ⟩:=hrel
  gi_wp2
  go_end0
  exact⟨⟨_,rfl⟩,.inl ⟨_,rfl,hJ⟩⟩
theorem Xk (s:aC)(W:ag)
  (HL:∀V,Below W.heap.size W V->au 198 #[.string s] V fun e w'=>e=.returned (.tuple #[.slice none 0 0,.nilIface])/\Below V.heap.size V w'):
  CallsIn Fence.wide 9 prog 146 #[.string s] W fun e w'=>e=.returned (.tuple #[mv (Mv.one),.nilIface])/\Below W.heap.size W w':=by
 have HO:=pG;have HB:=wI;have L0:=((aG W.heap.size W).alloc ai (.cells zA 125)).alloc (by simp) (.cells #[.nilIface] 26);have R0:dY ((W.alloc (.cells zA 125)).alloc (.cells #[.nilIface] 26)) W.heap.size zA 125:=(dY.new W _ _).alloc _;have Q0:=dY.new (W.alloc (.cells zA 125)) #[.nilIface] 26;rw[dB] at Q0;refine callsIn_of_wp_marks func146 rfl trivial ?_ rfl;simp only[ntmps146,List.size_toArray,List.length_cons,List.length_nil,Nat.reduceAdd,Nat.reduceSub,Array.replicate_succ,Array.replicate_zero,List.push_toArray,List.append_toArray,List.nil_append,List.cons_append]
 gi_wp2_with (first|(refine⟨trivial,?_⟩;gi_at_call 199;refine(callsIn_wide.2 (HB _ _ _ _ rfl _)).mono ?_;rintro e w' ⟨rfl,rfl⟩)|(refine⟨trivial,?_⟩;gi_at_call 51;refine(callsIn_wide.2 (HO _)).mono ?_;rintro e w2 ⟨rfl,hb2⟩;dsimp only[Mv.one,Fr.whole])|(refine⟨trivial,?_⟩;gi_at_call 198;refine(callsIn_wide.2 (HL _ L0)).mono ?_;rintro e w1 ⟨rfl,hb1⟩))
 have Ng:=hb1.size;simp only[dB] at Ng;have Wp:=hb2.size;simp only[dB] at Wp;have e1:(w1.alloc (.cells #[.nilIface] 26)).heap.size=w1.heap.size+1:=by simp
 have E2:=(dY.new w1 #[.nilIface] 26).below hb2 ai;have R2:=((R0.below hb1 ai).alloc (.cells #[.nilIface] 26)).below hb2 ai;have Q2:=((Q0.below hb1 ai).alloc (.cells #[.nilIface] 26)).below hb2 ai;have L2:=((L0.trans (hb1.mono (by simp;omega))).alloc (by omega) (.cells #[.nilIface] 26)).trans (hb2.mono (by simp;omega));obtain⟨U,hU⟩:∃U,(w2.alloc (.cells oA 125)).alloc (.cells #[.slice none 0 0] 292)=U:=⟨_,rfl⟩;have szU:U.heap.size=w2.heap.size+2:=by rw[<- hU];simp
 have A3:dY U w2.heap.size oA 125:=by rw[<- hU];exact(dY.new w2 _ _).alloc _
 have C3:U.cell? ⟨w2.heap.size+1,0,none⟩=some (.slice none 0 0):=by rw[<- hU];exact bD (by simp) rfl
 have E3:dY U w1.heap.size #[.nilIface] 26:=by rw[<- hU];exact(E2.alloc _).alloc _
 have R3:dY U W.heap.size zA 125:=by rw[<- hU];exact(R2.alloc _).alloc _
 have Q3:dY U (W.heap.size+1) #[.nilIface] 26:=by rw[<- hU];exact(Q2.alloc _).alloc _
 have L3:Below W.heap.size W U:=by rw[<- hU];exact(L2.alloc (by omega) _).alloc (by simp;omega) _
 rw[hU];clear hU L2 R0 Q0 E2 R2 Q2;refine wpIn_rangeFunc_ownH rfl (by omega) (gf:=244) (lb:=#[.pointer (some ⟨w2.heap.size+1,0,none⟩)]) rfl trivial (enters_of func244 (by kernel_rfl) rfl)
  (encs:=fun x:Nat=>a3Q Mv.one x) (Kp:=gJ w1.heap.size w2.heap.size U.heap.size) (S:=fun ys=>ys=[]) (Sp:=fun pre=>pre<+:[]) (N:=0) (w0:=U)
  (fun l J Jx X hX _ _ hY h0=>Xj Fence.wide _ trivial rfl l (w2.heap.size+1) J Jx X ((hX.cell (p:=⟨w2.heap.size+1,0,none⟩) (by simp only;omega)).trans C3) h0)
  gJ.trans (fun X l o o' hl _ _ _=>gJ.put X l o' hl) (aG _ _) (fun _=>rfl)
  (fun pre X=>(cz X w2.heap.size (mL Mv.one)/\(X.cell? ⟨w1.heap.size,0,none⟩=some .nilIface/\X.frozen? ⟨w1.heap.size,0,none⟩=false)/\cz X W.heap.size zL/\(X.cell? ⟨W.heap.size+1,0,none⟩=some .nilIface/\X.frozen? ⟨W.heap.size+1,0,none⟩=false)/\U.heap.size<=X.heap.size)/\Below W.heap.size W X)
  (fun _ _ _=>False)
  (OwnFrom.and (Own.from (fun pre A B row hs hg hr=>⟨hs.1.kept hg hr,⟨cell_kept hs.2.1.1 hg hr,(frozen_kept hs.2.1.1 hg hr).trans hs.2.1.2⟩,hs.2.2.1.kept hg hr,⟨cell_kept hs.2.2.2.1.1 hg hr,(frozen_kept hs.2.2.2.1.1 hg hr).trans hs.2.2.2.1.2⟩,aJ hs.2.2.2.2 hg.size⟩) _) (ownFrom_below ai (by omega)))
  (fun _ _ _ _ _ h _ _=>h)
  ⟨⟨cz.ve (vs:=oL) A3 rfl,⟨E3.cell 0 _ rfl,E3.di 0 _ rfl⟩,cz.ve (vs:=zL) R3 rfl,⟨Q3.cell 0 _ rfl,Q3.di 0 _ rfl⟩,Nat.le_refl _⟩,L3⟩
  (fun x a' X=>∃Bx,U.heap.size<=Bx/\cz X Bx (mL Mv.one)/\a'={tmps:=#[.string s,undef,ay W.heap.size,.pointer (some ⟨W.heap.size+1,0,none⟩),.slice none 0 0,ay w1.heap.size,ay w2.heap.size,undef,ay Bx,.tuple #[.slice none 0 0,.nilIface],.string s,.tuple #[.slice none 0 0,.nilIface],.slice none 0 0,.nilIface,.nilIface,.bool false,undef,undef,.agg oA,.slice none 0 0,.func (.func 244) #[] #[.pointer (some ⟨w2.heap.size+1,0,none⟩)],aa (x:Nat),.agg (mA Mv.one),undef,undef,undef,undef,undef,undef,undef,undef,undef,undef,undef],defers:=[]})
  (fun x a' s A B row hs hg hr=>by obtain⟨Bx,h1,h2,h3⟩:=hs;exact⟨Bx,h1,h2.kept hg (fun r e=>(hr r e).2),h3⟩)
  ?assign ?body ?done ?stop
 case assign=>
  rintro l pre x X K ⟨⟨h1,⟨h2,h2f⟩,h3,⟨h4,h4f⟩,hU⟩,hB⟩ hK
  gi_wp2
  have hs:=hB.size;have hal:=(aG X.heap.size X).alloc ai (.cells (mA Mv.one) 125);exact hK _ _ ((KeepsOthers.alloc _ _).from _) (gJ.of_below hal hU) ⟨⟨h1.below hal,⟨ax _ h2,eP _ h2 h2f⟩,h3.below hal,⟨ax _ h4,eP _ h4 h4f⟩,aJ hU hal.size⟩,hB.alloc hs _⟩ ⟨X.heap.size,hU,cz.ve (vs:=(mL Mv.one)) (dY.new X _ _) rfl,rfl⟩
 case body=>
  rintro l pre x a' X hl hr _ _ hlen;exact(Nat.not_lt_zero _ hlen).elim
 case done=>
  rintro D ys X hD rfl ⟨⟨h1,⟨h2,h2f⟩,h3,⟨h4,h4f⟩,hU⟩,hB⟩ hK;obtain⟨ac0,ac1,ac2,ac3,ac4,ac5,ac6,ac7,ac8,ac9,Tu,Tv⟩:=h1.twelve;obtain⟨rc0,rf0,rc1,rf1,xU,rf2,rc3,rf3,rc4,rf4,rc5,rf5,rc6,rf6,rc7,rf7,rc8,rf8,rc9,rf9,a9d,a9e,a9f,a9g⟩:=h3.six;have ne5:¬W.heap.size+1=W.heap.size:=by omega
  have ne6:¬W.heap.size=W.heap.size+1:=by omega
  gi_wp2
  have hK':=((lN (mL (Mv.one)) 0 W.heap.size X).trans (eF _ ⟨W.heap.size+1,0,none⟩ .nilIface)).same D _ hK rfl;refine⟨by simp,.inl ⟨_,_,rfl,run_takeDeferred hK',?_⟩⟩;have hO:cz ((((((((((((((X.setCell ⟨W.heap.size,0,none⟩ (aa (Mv.one).a.n)).setCell ⟨W.heap.size,1,none⟩ (aa (Mv.one).a.d)).setCell ⟨W.heap.size,2,none⟩ (aa (Mv.one).b.n)).setCell ⟨W.heap.size,3,none⟩ (aa (Mv.one).b.d)).setCell ⟨W.heap.size,4,none⟩ (aa (Mv.one).c.n)).setCell ⟨W.heap.size,5,none⟩ (aa (Mv.one).c.d)).setCell ⟨W.heap.size,6,none⟩ (aa (Mv.one).d.n)).setCell ⟨W.heap.size,7,none⟩ (aa (Mv.one).d.d)).setCell ⟨W.heap.size,8,none⟩ (aa (Mv.one).e.n)).setCell ⟨W.heap.size,9,none⟩ (aa (Mv.one).e.d)).setCell ⟨W.heap.size,10,none⟩ (aa (Mv.one).f.n)).setCell ⟨W.heap.size,11,none⟩ (aa (Mv.one).f.d)).setCell ⟨W.heap.size+1,0,none⟩ .nilIface).putObj D (.deferred none)) W.heap.size (mL (Mv.one)):=((h3.put (us:=(mL (Mv.one))) rfl).ku (o:=0) (v:=.nilIface) ne6).kept (grownBy_putObj' _ D (.deferred none)) (fun r e=>by cases e;exact⟨_,hK',rfl⟩);have hQ:((((((((((((((X.setCell ⟨W.heap.size,0,none⟩ (aa (Mv.one).a.n)).setCell ⟨W.heap.size,1,none⟩ (aa (Mv.one).a.d)).setCell ⟨W.heap.size,2,none⟩ (aa (Mv.one).b.n)).setCell ⟨W.heap.size,3,none⟩ (aa (Mv.one).b.d)).setCell ⟨W.heap.size,4,none⟩ (aa (Mv.one).c.n)).setCell ⟨W.heap.size,5,none⟩ (aa (Mv.one).c.d)).setCell ⟨W.heap.size,6,none⟩ (aa (Mv.one).d.n)).setCell ⟨W.heap.size,7,none⟩ (aa (Mv.one).d.d)).setCell ⟨W.heap.size,8,none⟩ (aa (Mv.one).e.n)).setCell ⟨W.heap.size,9,none⟩ (aa (Mv.one).e.d)).setCell ⟨W.heap.size,10,none⟩ (aa (Mv.one).f.n)).setCell ⟨W.heap.size,11,none⟩ (aa (Mv.one).f.d)).setCell ⟨W.heap.size+1,0,none⟩ .nilIface).putObj D (.deferred none)).cell? ⟨W.heap.size+1,0,none⟩=some .nilIface:=cell_kept (fM _ _ .nilIface (lK ((fe (p:=⟨W.heap.size+1,0,none⟩) (R:=W.heap.size) ne5 (mL (Mv.one)) 0 X).trans h4))) (grownBy_putObj' _ D (.deferred none)) (fun r e=>by cases e;exact⟨_,hK',rfl⟩)
  obtain⟨oc0,oc1,oc2,oc3,oc4,oc5,oc6,oc7,oc8,oc9,O9,Oa⟩:=hO.twelve;clear hO;have hL:=(aW (R:=W.heap.size) ai (mL (Mv.one)) 0 hB).setCell (p:=⟨W.heap.size+1,0,none⟩) (by simp only;omega) .nilIface;refine⟨.tuple #[mv (Mv.one),.nilIface],?_,rfl,hL.trans (belowK_b (w:=W) ai _ D _ _ (by omega) hK' rfl rfl)⟩;simp[results,results146,go_sem,hQ,oc0,oc1,oc2,oc3,oc4,oc5,oc6,oc7,oc8,oc9,O9,Oa]
 case stop=>
  rintro D c pre X _ _ h _;exact h.elim
theorem KQ (s:aC)(a:Addr)(W:ag)
  (HL:∀V,Below W.heap.size W V->au 198 #[.string s] V fun e w'=>e=.returned (.tuple #[.slice none 0 0,.iface 401 (.pointer (some a))])/\Below V.heap.size V w'):
  CallsIn Fence.wide 9 prog 146 #[.string s] W fun e w'=>e=.returned (.tuple #[mv .zero,.iface 401 (.pointer (some a))])/\Below W.heap.size W w':=by
 have L0:=((aG W.heap.size W).alloc ai (.cells zA 125)).alloc (by simp) (.cells #[.nilIface] 26);have R0:dY ((W.alloc (.cells zA 125)).alloc (.cells #[.nilIface] 26)) W.heap.size zA 125:=(dY.new W _ _).alloc _;have Q0:=dY.new (W.alloc (.cells zA 125)) #[.nilIface] 26;rw[dB] at Q0;refine callsIn_of_wp_marks func146 rfl trivial ?_ rfl;simp only[ntmps146,List.size_toArray,List.length_cons,List.length_nil,Nat.reduceAdd,Nat.reduceSub,Array.replicate_succ,Array.replicate_zero,List.push_toArray,List.append_toArray,List.nil_append,List.cons_append]
 gi_wp2_with ((refine⟨trivial,?_⟩;gi_at_call 198;refine(callsIn_wide.2 (HL _ L0)).mono ?_;rintro e w1 ⟨rfl,hb1⟩))
 have Ng:=hb1.size;simp only[dB] at Ng;obtain⟨Y,hY⟩:∃Y,w1.alloc (.cells #[.iface 401 (.pointer (some a))] 26)=Y:=⟨_,rfl⟩;have y1:Y.cell? ⟨w1.heap.size,0,none⟩=some (.iface 401 (.pointer (some a))):=by rw[<- hY];exact bD rfl rfl
 have y3:dY Y W.heap.size zA 125:=by rw[<- hY];exact(R0.below hb1 ai).alloc _
 have y4:dY Y (W.heap.size+1) #[.nilIface] 26:=by rw[<- hY];exact(Q0.below hb1 ai).alloc _
 have yB:Below W.heap.size W Y:=by rw[<- hY];exact(L0.trans (hb1.mono (by simp;omega))).alloc (by omega) _
 rw[hY];clear hY hb1 R0 Q0 L0;have qc:=y4.cell 0 _ rfl;have qf:=y4.di 0 _ rfl;obtain⟨qC,Fy,qD,Fz,qE,FE,qF,FH,vJ,JR,vL,JS,vM,JU,vN,JV,vO,JW,vP,JX,jD,qW,jE,qX⟩:=y3.six;have ne5:¬W.heap.size+1=W.heap.size:=by omega
 have ne6:¬W.heap.size=W.heap.size+1:=by omega
 gi_region
 all_goals
  gi_wp2
  have hO:=cz.drew (((cz.ve (vs:=zL) y3 rfl).put (us:=zL) rfl).ku (E:=W.heap.size+1) (o:=0) (v:=.iface 401 (.pointer (some a))) ne6);have hQ:=FL (fM (put Y W.heap.size 0 zL) ⟨W.heap.size+1,0,none⟩ (.iface 401 (.pointer (some a))) (lK ((fe (p:=⟨W.heap.size+1,0,none⟩) (R:=W.heap.size) ne5 zL 0 Y).trans qc)));simp only[put,Nat.zero_add,Nat.reduceAdd] at hO hQ;obtain⟨oc0,oc1,oc2,oc3,oc4,oc5,oc6,oc7,oc8,oc9,O9,Oa⟩:=hO.twelve;clear hO;have hL:=below_drewN ((aW (R:=W.heap.size) ai zL 0 yB).setCell (p:=⟨W.heap.size+1,0,none⟩) (by simp only;omega) (.iface 401 (.pointer (some a)))) 1;refine⟨.tuple #[mv .zero,.iface 401 (.pointer (some a))],?_,rfl,hL⟩;simp[results,results146,go_sem,Mv.zero,Fr.zero,hQ,oc0,oc1,oc2,oc3,oc4,oc5,oc6,oc7,oc8,oc9,O9,Oa]
end
end Go.Proofs.YtecneflbncjhpaaGreatDoor
